/-
  Joined: Vj, Vk, Vl, Vm, Ve, Vo, Lb, Bj, Lc, Lm, Ld, Le. Conditions: none.
-/
import Derived.Test.YtkckcgpmnipnaaaGreatW41
import Derived.Test.YtkckcgpmnipnaaaGreatW21
import Derived.Test.YtkckcgpmnipnaaaGreatW31
import Derived.Test.YtkckcgpmnipnaaaGreatW30
import Derived.Test.YtkckcgpmnipnaaaGreatSxP
import Derived.Test.YtkckcgpmnipnaaaGreatW34
import Derived.Test.YtkckcgpmnipnaaaGreatW27
namespace Go.Proofs.YtkckcgpmnipnaaaGreat
set_option maxRecDepth 100000
open Go.RowKit
theorem qua {i:Nat} (h:1≤i) (hk:i≤1000000):iV (IntKind.i64.wrap ((i:Int)-1))=iV ((i-1:Nat):Int):=by
 rw[show (i:Int)-1=((i-1:Nat):Int) by omega];exact qbl (by omega) (by omega)
theorem qub {i:Nat} (hk:i≤1000000):iV (IntKind.i64.wrap (Int.tdiv ((i-1:Nat):Int) 2))=iV (((i-1)/2:Nat):Int):=by
 have e:Int.tdiv ((i-1:Nat):Int) 2=(((i-1)/2:Nat):Int):=by rw[Int.tdiv_eq_ediv_of_nonneg (by omega)];omega
 rw[e]
 exact qbl (by omega) (by omega)
theorem qHX {ev:List Ev} {n i j:Nat} {x y:Ev} (l:ev.length=n) (hi:i<n) (hj:j<n) (h:i≠j):((ev.set i y).set j x)[i]?=some y:=by
 rw[List.getElem?_set,if_neg (fun e=>h e.symm),List.getElem?_set,if_pos rfl,if_pos (by omega)]
theorem qIc {ev:List Ev} {n i j:Nat} {x y:Ev} (l:ev.length=n) (hi:i<n) (hj:j<n) (h:i≠j):((ev.set i y).set j x)[j]?=some x:=by
 rw[List.getElem?_set,if_pos rfl,if_pos (by rw[List.length_set];omega)]
theorem qzZ {u2:List Int} {b2:List Bool} {f2:List Int} {hi:Int} {hw:Int} {n mm:Nat} (hn:n≤1000000) (d ii:Nat) (ev:List Ev) (wh:List Int) (a:ii≤d) (c:ii<n) (I:AInv n mm ev wh):Rl 5 22 154 0 32 23 ([(1,.pv (iV (ii:Int))),(2,.pp 22 0)]) ([(22,0,.ls 15 u2.length),(22,1,.ls 16 b2.length),(22,2,.ls 17 f2.length),(22,3,.ls 21 n),(22,4,.ls 13 mm),(14,0,.ls 15 u2.length),(14,1,.ls 16 b2.length),(14,2,.ls 17 f2.length),(14,3,.ls 21 n),(14,4,.ls 13 mm),(7,0,.pv (.slice none 0 0)),(7,1,.pv (.slice none 0 0)),(7,2,.pv (.slice none 0 0)),(7,3,.pv (.slice none 0 0)),(7,4,.pv (.slice none 0 0)),(8,0,.pv (iV 0)),(8,1,.pv (iV 0)),(19,0,.pv (iV hi)),(19,1,.pv (iV hw)),(15,0,zrI u2),(16,0,zrB b2),(17,0,zrI f2),(21,0,.row 61 5 n (qbf (ev))),(13,0,.row 3 1 mm (ziV (wh)))]) (.exit 0) [(1,.pv (iV ((upM d ev wh ii).2.2:Int)))] ([(14,0,.ls 15 u2.length),(14,1,.ls 16 b2.length),(14,2,.ls 17 f2.length),(14,3,.ls 21 n),(14,4,.ls 13 mm),(7,0,.pv (.slice none 0 0)),(7,1,.pv (.slice none 0 0)),(7,2,.pv (.slice none 0 0)),(7,3,.pv (.slice none 0 0)),(7,4,.pv (.slice none 0 0)),(8,0,.pv (iV 0)),(8,1,.pv (iV 0)),(19,0,.pv (iV hi)),(19,1,.pv (iV hw)),(15,0,zrI u2),(16,0,zrB b2),(17,0,zrI f2),(21,0,.row 61 5 n (qbf ((upM d ev wh ii).1))),(13,0,.row 3 1 mm (ziV ((upM d ev wh ii).2.1)))]):=by
 refine (qhI (n:=n) (mm:=mm) (Q:=fun (ii:Nat) ev wh (ii':Nat) ev' wh'=>Rl 5 22 154 0 32 23 ([(1,.pv (iV (ii:Int))),(2,.pp 22 0)]) ([(22,0,.ls 15 u2.length),(22,1,.ls 16 b2.length),(22,2,.ls 17 f2.length),(22,3,.ls 21 n),(22,4,.ls 13 mm),(14,0,.ls 15 u2.length),(14,1,.ls 16 b2.length),(14,2,.ls 17 f2.length),(14,3,.ls 21 n),(14,4,.ls 13 mm),(7,0,.pv (.slice none 0 0)),(7,1,.pv (.slice none 0 0)),(7,2,.pv (.slice none 0 0)),(7,3,.pv (.slice none 0 0)),(7,4,.pv (.slice none 0 0)),(8,0,.pv (iV 0)),(8,1,.pv (iV 0)),(19,0,.pv (iV hi)),(19,1,.pv (iV hw)),(15,0,zrI u2),(16,0,zrB b2),(17,0,zrI f2),(21,0,.row 61 5 n (qbf (ev))),(13,0,.row 3 1 mm (ziV (wh)))]) (.exit 0) [(1,.pv (iV (ii':Int)))] ([(14,0,.ls 15 u2.length),(14,1,.ls 16 b2.length),(14,2,.ls 17 f2.length),(14,3,.ls 21 n),(14,4,.ls 13 mm),(7,0,.pv (.slice none 0 0)),(7,1,.pv (.slice none 0 0)),(7,2,.pv (.slice none 0 0)),(7,3,.pv (.slice none 0 0)),(7,4,.pv (.slice none 0 0)),(8,0,.pv (iV 0)),(8,1,.pv (iV 0)),(19,0,.pv (iV hi)),(19,1,.pv (iV hw)),(15,0,zrI u2),(16,0,zrB b2),(17,0,zrI f2),(21,0,.row 61 5 n (qbf (ev'))),(13,0,.row 3 1 mm (ziV (wh')))])) ?_ ?_ ?_ d ii ev wh a c I).1
 ·intro i ev wh x y i' ev' wh' I h0 hi hx hy hl r
  have ox:=I.ok x (List.mem_of_getElem? hx);have oy:=I.ok y (List.mem_of_getElem? hy);have ix:=I.ix x (List.mem_of_getElem? hx);have iy:=I.ix y (List.mem_of_getElem? hy)
  have l1:=I.len;have l2:=I.wl;have hc:=qeb ox.i oy.i;rw[hl] at hc
  exact qlB (q:=i-1) (j:=(i-1)/2) (x:=x) (y:=y) (n2:=by decide) (hm1:=qua (by omega) (by omega)) (hm2:=qub (by omega)) (hin_x:=⟨by omega,by omega⟩) (he_x:=hx) (hin_y:=⟨by omega,by omega⟩) (he_y:=hy) (h0:=decide_eq_true (by omega)) (hl:=hc) (hsa:=by omega) (hsb:=by rw[List.length_set];omega) (h2a:=qHX l1 (by omega) (by omega) (by omega)) (h2b:=qIc l1 (by omega) (by omega) (by omega)) (hwb:=iy) (hwbl:=by omega) (hwa:=ix) (hwal:=by rw[List.length_set];omega) (r:=r)
 ·intro i ev wh x y I h0 hi hx hy hl
  have ox:=I.ok x (List.mem_of_getElem? hx);have oy:=I.ok y (List.mem_of_getElem? hy)
  have hc:=qeb ox.i oy.i;rw[hl] at hc
  exact qlU (q:=i-1) (j:=(i-1)/2) (x:=x) (y:=y) (n2:=by decide) (hm1:=qua (by omega) (by omega)) (hm2:=qub (by omega)) (hin_x:=⟨by omega,by omega⟩) (he_x:=hx) (hin_y:=⟨by omega,by omega⟩) (he_y:=hy) (h0:=decide_eq_true (by omega)) (hl:=hc)
 ·intro ev wh I
  exact qlY (k:=0) (decide_eq_false (by omega))
end Go.Proofs.YtkckcgpmnipnaaaGreat

namespace Go.Proofs.YtkckcgpmnipnaaaGreat
set_option maxRecDepth 100000
open Go.RowKit
section
variable {u fr wh:List Int} {b:List Bool} {ev:List Ev}
theorem qjx {u' fr':List Int} {b':List Bool} {x z:Int} (h:Vd u b fr) (ht:qbu u b fr=some (u',b',fr',x,z)) :
 Fn 243 3 [.ag [.ls 0 u.length,.ls 1 b.length,.ls 2 fr.length]] [(0,0,zrI u),(1,0,zrB b),(2,0,zrI fr)] (.tu [.ag [.ls 3 u'.length,.ls 4 b'.length,.ls 5 fr'.length],.one (.pv (qbb x z))]) 3 [(3,0,zrI u'),(4,0,zrB b'),(5,0,zrI fr')]:=by
 have hfl:=h.frlen
 have hle:=h.le
 obtain⟨y,h1,h2,h3,rfl,rfl,rfl,rfl⟩:=qba ht
 obtain⟨e,hg,h4⟩:=qbk h1
 have hx:x∈fr:=by rw[e];simp
 obtain⟨r1,r2⟩:=h.rng x hx
 have hbk:x.toNat<b.length:=by rw[h.len];omega
 have hy:=h.use x.toNat y _ h2 (List.getElem?_eq_getElem hbk)
 have hy0:0≤y:=by have:=hy.1;split at this<;>omega
 have hl:iV (IntKind.i64.wrap ((fr.length:Int)-1))=iV ((fr.length-1:Nat):Int):=by rw[show ((fr.length:Int)-1)=((fr.length-1:Nat):Int) by omega];exact qbl (by omega) (by omega)
 have key:=rtk (m:=fr.length-1) (z:=y+1) (qfc h.small) hl (by omega) hg (by omega) ⟨r1,r2⟩ h2 (by omega) ⟨r1,by rw[h.len];exact r2⟩ hbk (by rw[List.getElem?_set,if_pos rfl,if_pos (by omega)]) (qbl (by omega) (by omega))
 have ef:fr.dropLast=fr.take (fr.length-1):=List.dropLast_eq_take
 have el:(fr.take (fr.length-1)).length=fr.length-1:=by rw[List.length_take];omega
 have e1:(ziV fr).take ((fr.length-1)*1)=ziV (fr.take (fr.length-1)):=by simp[ziV,List.map_take]
 rw[e1] at key
 simp only[zrI,zrB,List.length_set]
 rw[ef,el]
 exact key
theorem qCv (h:VA u b fr ev wh):Fn 72 5 [agA u b fr ev wh] (agP u b fr ev wh) (.ag [.ls 5 u.length,.ls 6 b.length,.ls 7 fr.length,.ls 8 ev.length,.ls 9 wh.length]) 5 [(5,0,zrI u),(6,0,zrB b),(7,0,zrI fr),(8,0,qar ev),(9,0,zrI wh)]:=by
 have hlen:=h.lens
 exact qHy (h6:=qfc h.vd.small) (ne:=by omega) (nw:=by omega)
theorem qjA {tn td z:Int} {u2 f2:List Int} {b2:List Bool} {hi hw:Int} (ht:I64 tn∧I64 td) (h0:okB tn td=true) (h:VA u b fr ev wh) (hz:0≤z∧z≤1000000) (hk:qbu u b fr=some (u2,b2,f2,hi,hw)) :
 Fn 198 5 [agA u b fr ev wh,.pv (qaa tn td),.pv (iV z)] (agP u b fr ev wh)
  (.tu [qFt (qa7 ev wh ⟨tn,td,z,hi,hw⟩).1 u2 b2 f2 (qa7 ev wh ⟨tn,td,z,hi,hw⟩).2,.one (.pv (qbb hi hw))]) 5 (qwq (qa7 ev wh ⟨tn,td,z,hi,hw⟩).1 u2 b2 f2 (qa7 ev wh ⟨tn,td,z,hi,hw⟩).2):=by
 have hlen:=h.lens
 have hin:=qjl h.vd hk
 have I:=qgE (x:=⟨tn,td,z,hi,hw⟩) h.inv ⟨ht,h0,hz.1,hz.2⟩ ⟨hin.1,by have:=hin.2;simp only;omega⟩
 obtain⟨J,_⟩:=qi7 (d:=ev.length) (i:=ev.length) (by omega) (by omega) I
 have j1:(qa7 ev wh ⟨tn,td,z,hi,hw⟩).1.length=ev.length+1:=J.len
 have j2:(qa7 ev wh ⟨tn,td,z,hi,hw⟩).2.length=wh.length:=J.wl
 simp only[qFt,qwq,qar,zrI,j1,j2]
 have r:=qzZ (u2:=u2) (b2:=b2) (f2:=f2) (hi:=hi) (hw:=hw) (n:=ev.length+1) (by omega) ev.length ev.length (ev++[⟨tn,td,z,hi,hw⟩]) (wh.set hi.toNat (ev.length:Int)) (by omega) (by omega) I
 exact qsy (p:=_) (la:=ev.length) (ev3:=(qa7 ev wh ⟨tn,td,z,hi,hw⟩).1) (wh3:=(qa7 ev wh ⟨tn,td,z,hi,hw⟩).2) (htw:=qCv h) (htk:=qjx h.vd hk) (hl:=by omega) (hla:=by rw[show ((ev.length+1:Nat):Int)-1=(ev.length:Int) by omega];exact qbl (by omega) (by omega)) (hiw:=⟨hin.1,by have:=hin.2;omega⟩) (hws:=by omega) (r0:=r)
end
end Go.Proofs.YtkckcgpmnipnaaaGreat

namespace Go.Proofs.YtkckcgpmnipnaaaGreat
set_option maxRecDepth 100000
open Go.RowKit
section
variable {u fr wh:List Int} {b:List Bool} {ev:List Ev}
theorem qlu {hi hw:Int} (h:VA u b fr ev wh) (hl:¬ Live u b hi hw):Fn 125 5 [agA u b fr ev wh,.pv (qbb hi hw)] (agP u b fr ev wh) (.pv (.tuple #[evZ,iV 6])) 0 []:=qqZ (hc:=qel h) (hl:=qkl h.vd hl)
theorem qlb {hi hw:Int} {j:Nat} {x:Ev} (h:VA u b fr ev wh) (hl:Live u b hi hw) (hj:wh[hi.toNat]?=some (j:Int)) (hx:ev[j]?=some x):Fn 125 5 [agA u b fr ev wh,.pv (qbb hi hw)] (agP u b fr ev wh) (.pv (.tuple #[qae x,iV 0])) 0 []:=by
 have:=(List.getElem?_eq_some_iff.1 hj).1
 have:=(List.getElem?_eq_some_iff.1 hx).1
 have:=hl.lo
 exact qC2 (hc:=qel h) (hl:=qhQ h.vd hl) (hiw:=by omega) (hw_:=hj) (hij:=by omega) (hx:=hx)
end
end Go.Proofs.YtkckcgpmnipnaaaGreat

namespace Go.Proofs.YtkckcgpmnipnaaaGreat
set_option maxRecDepth 100000
open Go.RowKit
theorem qBv (b:Nat) (g:List Int) (x:Int):some (SV.ls b (g.length+1))=some (SV.ls b (g++[x]).length):=by rw[List.length_append];rfl
theorem qwB (g:List Int) (x:Int):some (SV.row 3 1 (g.length+1) (ziV g++[iV x]))=some (zrI (g++[x])):=by rw[zrI,qaW,List.length_append];rfl
abbrev qDw (f2:List Int) (g:List Int) (n:Nat):HpL:=[(0,0,.pv (.slice none 0 0)),(0,1,.pv (.slice none 0 0)),(0,2,.pv (.slice none 0 0)),(0,3,.pv (.slice none 0 0)),(0,4,.pv (.slice none 0 0)),(4,0,.ls 1 n),(4,1,.ls 2 n),(4,2,.ls 3 n),(4,3,.pv (.slice none 0 0)),(4,4,.ls 5 (g).length),(1,0,.row 3 1 n (ziV (List.replicate n 0))),(2,0,.row 4 1 n (zbV (List.replicate n false))),(3,0,.row 3 1 n (ziV f2)),(5,0,zrI (g))]
theorem qpU {f2 g:List Int} {k n:Nat} (hlt:decide ((k:Int)<(n:Int))=true) (hn:g.length+1≤1000000) (hs:iV (IntKind.i64.wrap ((k:Int)+1))=iV (((k+1:Nat):Int))) {e:Exit} {tm2:TmL} {hp2:HpL}
 (r:Rl 0 0 150 0 19 6 ([(0,.pv (iV (n:Int))),(2,.pp 0 0),(3,.pp 4 0),(4,.pv (iV ((k+1:Nat):Int)))]) ([(0,0,.pv (.slice none 0 0)),(0,1,.pv (.slice none 0 0)),(0,2,.pv (.slice none 0 0)),(0,3,.pv (.slice none 0 0)),(0,4,.pv (.slice none 0 0)),(4,0,.ls 1 n),(4,1,.ls 2 n),(4,2,.ls 3 n),(4,3,.pv (.slice none 0 0)),(4,4,.ls 5 (g++[-1]).length),(1,0,.row 3 1 n (ziV (List.replicate n 0))),(2,0,.row 4 1 n (zbV (List.replicate n false))),(3,0,.row 3 1 n (ziV f2)),(5,0,zrI (g++[-1]))]) e tm2 hp2):Rl 0 0 150 0 19 6 ([(0,.pv (iV (n:Int))),(2,.pp 0 0),(3,.pp 4 0),(4,.pv (iV (k:Int)))]) (qDw f2 g n) e tm2 hp2:=
 RunsL.next [(5,7)] 300 [.t true,Re hs]
  (qf2 (Ai (Eq.refl (SV.pv (iV (n:Int)))) (Ai (Eq.refl (SV.pp 0 0)) (Ai (Eq.refl (SV.pp 4 0)) (Ai (Eq.refl (SV.pv (iV ((k+1:Nat):Int)))) tI)))) (Ai (Er (SV.pv (.slice none 0 0))) (Ai (Er (SV.pv (.slice none 0 0))) (Ai (Er (SV.pv (.slice none 0 0))) (Ai (Er (SV.pv (.slice none 0 0))) (Ai (Er (SV.pv (.slice none 0 0))) (Ai (Er (SV.ls 1 n)) (Ai (Er (SV.ls 2 n)) (Ai (Er (SV.ls 3 n)) (Ai (Er (SV.pv (.slice none 0 0))) (Ai (qBv 7 g (-1)) (Ai (Er (SV.row 3 1 n (ziV (List.replicate n 0)))) (Ai (Er (SV.row 4 1 n (zbV (List.replicate n false)))) (Ai (Er (SV.row 3 1 n (ziV f2))) (Ai (qwB g (-1)) tI)))))))))))))) (Ai hlt (Ai hn (Ai hs tI))) (by kernel_rfl)) r
theorem qw5 {f2 g:List Int} {k n:Nat} (hge:decide ((k:Int)<(n:Int))=false):Rl 0 0 150 0 19 6 ([(0,.pv (iV (n:Int))),(2,.pp 0 0),(3,.pp 4 0),(4,.pv (iV (k:Int)))]) (qDw f2 g n) (.exit 0) ([(0,.pv (iV (n:Int))),(2,.pp 0 0),(3,.pp 4 0)]) (qDw f2 g n):=
 RunsL.stop [] 300 [.t false] (fun h=>by cases h)
  (Ro (Ai hge tI))
theorem qvQ {f2 g:List Int} {n:Nat} (h6:Fn 201 0 [.pv (iV (n:Int))] [] (.ag [.ls 0 n,.ls 1 n,.ls 2 n]) 3 [(0,0,.row 3 1 n (ziV (List.replicate n 0))),(1,0,.row 4 1 n (zbV (List.replicate n false))),(2,0,.row 3 1 n (ziV f2))]) (r0:Rl 0 0 150 0 19 6 ([(0,.pv (iV (n:Int))),(2,.pp 0 0),(3,.pp 4 0),(4,.pv (iV ((0:Nat):Int)))]) ([(0,0,.pv (.slice none 0 0)),(0,1,.pv (.slice none 0 0)),(0,2,.pv (.slice none 0 0)),(0,3,.pv (.slice none 0 0)),(0,4,.pv (.slice none 0 0)),(4,0,.ls 1 n),(4,1,.ls 2 n),(4,2,.ls 3 n),(4,3,.pv (.slice none 0 0)),(4,4,.ls 5 ([]:List Int).length),(1,0,.row 3 1 n (ziV (List.replicate n 0))),(2,0,.row 4 1 n (zbV (List.replicate n false))),(3,0,.row 3 1 n (ziV f2)),(5,0,zrI ([]:List Int))]) (.exit 0) ([(0,.pv (iV (n:Int))),(2,.pp 0 0),(3,.pp 4 0)]) (qDw f2 g n)) :
 Fn 150 0 [.pv (iV (n:Int))] [] (.ag [.ls 0 n,.ls 1 n,.ls 2 n,.pv (.slice none 0 0),.ls 3 g.length]) 4 [(0,0,.row 3 1 n (ziV (List.replicate n 0))),(1,0,.row 4 1 n (zbV (List.replicate n false))),(2,0,.row 3 1 n (ziV f2)),(3,0,zrI g)]:=
 Fz [(0,1),(1,2),(2,3),(3,5)] [Cf h6 [],.ln false 4 4 3 1,Lf r0]
  (qaE (qaK [(0,1),(1,2),(2,3),(3,5)]) [(0,0,.row 3 1 n (ziV (List.replicate n 0))),(1,0,.row 4 1 n (zbV (List.replicate n false))),(2,0,.row 3 1 n (ziV f2)),(3,0,zrI g)]) (Co h6 [] 1 (Lo r0 [] tI))
end Go.Proofs.YtkckcgpmnipnaaaGreat

namespace Go.Proofs.YtkckcgpmnipnaaaGreat
set_option maxRecDepth 100000
open Go.RowKit
section
theorem qtK {f:FuncId} {args:List SV} {n0 n1 n2 n3:Nat} {r0 r1 r2 r3:SV}
 (h:Fn f 0 args [] (.ag [.ls 0 n0,.ls 1 n1,.ls 2 n2,.pv (.slice none 0 0),.ls 3 n3]) 4 [(0,0,r0),(1,0,r1),(2,0,r2),(3,0,r3)]) (hr:r0.isRow=true∧r1.isRow=true∧r2.isRow=true∧r3.isRow=true) :
 Fn f 0 args [] (.ag [.ls 0 n0,.ls 1 n1,.ls 2 n2,.ls 4 0,.ls 3 n3]) 5 [(0,0,r0),(1,0,r1),(2,0,r2),(3,0,r3),(4,0,qar [])]:=by
 intro w β us hH hd hi
 refine (h w β us hH hd hi).mono fun e w' ⟨v,β',he,hle,hx,hh,hd'⟩=>?_
 obtain⟨ws,hws,h0⟩:=hx
 match ws,hws with
 | [a0,a1,a2,a3,a4],⟨k0,k1,k2,k3,k4,_⟩=>
 have k3':a3=.slice none 0 0:=k3
 subst k3' h0
 have hd4:=hd' 4 (by omega)
 have hle4:β'.le (β'.setG 4 (.slice none 0 0)):=Bl.le_setG hd4.1 hd4.2
 refine⟨_,β'.setG 4 (.slice none 0 0),he,Bl.le_trans hle hle4,⟨[a0,a1,a2,.slice none 0 0,a4],⟨S0.is_mono hle4 k0,S0.is_mono hle4 k1,S0.is_mono hle4 k2,⟨Bl.setG_same _ _ _,none,0,rfl⟩,S0.is_mono hle4 k4,tI⟩,rfl⟩,?_,qbA hd'⟩
 have ho:w'.ownsRow w.heap.size 61 5 (.slice none 0 0) 0 []:=⟨rfl,Or.inl ⟨rfl,rfl⟩⟩
 have look:∀ c o s,qaf [(0,0,r0),(1,0,r1),(2,0,r2),(3,0,r3),(4,0,qar [])] c o=some s→(c=4∧o=0∧s=qar [])∨(c≠4∧qaf [(0,0,r0),(1,0,r1),(2,0,r2),(3,0,r3)] c o=some s):=by
  intro c o s hs
  by_cases hc:c=4
  ·subst hc
   simp only[qag,if_neg (show ¬ ((0:Nat)=4∧(0:Nat)=o) by omega),if_neg (show ¬ ((1:Nat)=4∧(0:Nat)=o) by omega),if_neg (show ¬ ((2:Nat)=4∧(0:Nat)=o) by omega),if_neg (show ¬ ((3:Nat)=4∧(0:Nat)=o) by omega)] at hs
   split at hs
   ·rename_i e4
    exact Or.inl ⟨rfl,e4.2.symm,(Option.some.inj hs).symm⟩
   ·cases hs
  ·refine Or.inr ⟨hc,?_⟩
   have e4:¬ ((4:Nat)=c∧(0:Nat)=o):=fun e=>hc e.1.symm
   simp only[qag] at hs ⊢
   rw[if_neg e4] at hs
   exact hs
 refine⟨hh.gr,hh.live,hh.inj,hh.new,fun c r hc=>?_,fun c o s hs hsr=>?_,fun c o e es n xs hs=>?_,fun c o e es n xs c' o' e' es' n' xs' u v hs hs' h1 h2 hne gu gv k hu hv=>?_,fun c o xs hs=>?_⟩
 ·have hc':β' c=some r:=hc
  have:c≠4:=fun e=>by subst e;rw[hd4.1] at hc';cases hc'
  show (if c=4 then _ else β'.g c)=none
  rw[if_neg this]
  exact hh.sep c r hc'
 ·rcases look _ _ _ hs with ⟨_,_,rfl⟩ | ⟨_,hs⟩
  ·cases hsr
  ·obtain⟨r,uu,g1,g2,g3⟩:=hh.cells c o s hs hsr
   exact⟨r,uu,g1,SV.is_mono hle4 g2,g3⟩
 ·rcases look _ _ _ hs with ⟨rfl,_,e1⟩ | ⟨hc,hs⟩
  ·cases e1
   refine⟨_,Bl.setG_same _ _ _,qdF ho,(fun v hv=>by cases hv),fun h=>by omega,fun _=>ho,fun _ c r hc hu=>by cases hu⟩
  ·obtain⟨uu,g1,g2⟩:=hh.rows c o e es n xs hs
   exact⟨uu,hle4.g g1,g2.rd,g2.one,g2.low,g2.own,fun h c' r hc' hu=>g2.apart h c' r hc' hu⟩
 ·rcases look _ _ _ hs with ⟨rfl,_,e1⟩ | ⟨hc,hs⟩
  ·have gu':=gu
   rw[Bl.setG_same] at gu'
   cases gu';cases hu
  ·rcases look _ _ _ hs' with ⟨rfl,_,e1⟩ | ⟨hc2,hs2⟩
   ·have gv':=gv
    rw[Bl.setG_same] at gv'
    cases gv';cases hv
   ·have e1:β'.g c=some u:=by
     have g':(if c=4 then some (Value.slice none 0 0) else β'.g c)=some u:=gu
     rwa [if_neg hc] at g'
    have e2:β'.g c'=some v:=by
     have g':(if c'=4 then some (Value.slice none 0 0) else β'.g c')=some v:=gv
     rwa [if_neg hc2] at g'
    exact hh.rinj c o e es n xs c' o' e' es' n' xs' u v hs hs2 h1 h2 hne e1 e2 k hu hv
 ·rcases look _ _ _ hs with ⟨_,_,e1⟩ | ⟨_,hs⟩
  ·cases e1
  ·exact hh.maps c o xs hs
end
section
variable {u0 fr0 wh0:List Int} {b0:List Bool}
end
end Go.Proofs.YtkckcgpmnipnaaaGreat

namespace Go.Proofs.YtkckcgpmnipnaaaGreat
set_option maxRecDepth 100000
open Go.RowKit
section
variable {u fr wh:List Int} {b:List Bool} {ev:List Ev}
theorem qj6 (hl:ev.length≤1000000):∀ (d k:Nat),k+d=ev.length→Rl 10 10 80 0 47 12 [(2,.pp 10 0),(3,.pp 11 0),(5,.pv (iV (k:Int)))] [(10,0,.ls 0 u.length),(10,1,.ls 1 b.length),(10,2,.ls 2 fr.length),(10,3,.ls 3 ev.length),(10,4,.ls 4 wh.length),(11,0,.ls 5 u.length),(11,1,.ls 6 b.length),(11,2,.ls 7 fr.length),(11,3,.ls 8 ev.length),(11,4,.ls 9 wh.length),(3,0,qar ev),(8,0,qar ev)] (.exit 0) [] []
 | 0,k,hk=>qvp (hge:=decide_eq_false (by omega))
 | d+1,k,hk=>by
  have hx:ev[k]?=some (ev[k]'(by omega)):=List.getElem?_eq_getElem (by omega)
  exact qsG (hk:=hx) (hin:=by omega) (hlt:=decide_eq_true (by omega)) (hq:=by simp) (hs:=qaB (by omega)) (r:=qj6 hl d (k+1) (by omega))
theorem qqh (hg:qb0 u b fr=false) (hl:ev.length≤1000000) (hw:wh.length≤1000000):Fn 80 10 [agA u b fr ev wh,.ag [.ls 5 u.length,.ls 6 b.length,.ls 7 fr.length,.ls 8 ev.length,.ls 9 wh.length]] [(0,0,zrI u),(1,0,zrB b),(2,0,zrI fr),(3,0,qar ev),(4,0,zrI wh),(5,0,zrI u),(6,0,zrB b),(7,0,zrI fr),(8,0,qar ev),(9,0,zrI wh)] (.pv (.bool true)) 0 []:=
 qtf (hi:=0) (qsh hg) (qgZ hw) (by simp) (qj6 hl ev.length 0 (by omega))
theorem qpV {n:Nat} (h:n≤200):Fn 201 0 [.pv (iV (n:Int))] [] (.ag [.ls 0 n,.ls 1 n,.ls 2 n]) 3 [(0,0,.row 3 1 n (ziV (List.replicate n 0))),(1,0,.row 4 1 n (zbV (List.replicate n false))),(2,0,.row 3 1 n (ziV (qbH n)))]:=by
 have hb:=qzH (n:=n) (g:=qbH n) (by omega) (by omega) (qbl (by omega) (by omega)) (by
  have:=qmE (n:=n) (by omega) n 0 (by omega)
  rw[show (n:Int)-1-((0:Nat):Int)=(n:Int)-1 by omega] at this
  exact this) (qaN n)
 rw[zrI,qaN] at hb
 exact hb
theorem qkP {n:Nat} {f2:List Int} (h:n≤200):∀ (d k:Nat),k+d=n→Rl 0 0 150 0 19 6 [(0,.pv (iV (n:Int))),(2,.pp 0 0),(3,.pp 4 0),(4,.pv (iV (k:Int)))]
 [(0,0,.pv (.slice none 0 0)),(0,1,.pv (.slice none 0 0)),(0,2,.pv (.slice none 0 0)),(0,3,.pv (.slice none 0 0)),(0,4,.pv (.slice none 0 0)),(4,0,.ls 1 n),(4,1,.ls 2 n),(4,2,.ls 3 n),(4,3,.pv (.slice none 0 0)),(4,4,.ls 5 (List.replicate k (-1:Int)).length),(1,0,.row 3 1 n (ziV (List.replicate n 0))),(2,0,.row 4 1 n (zbV (List.replicate n false))),(3,0,.row 3 1 n (ziV f2)),(5,0,zrI (List.replicate k (-1)))] (.exit 0) [(0,.pv (iV (n:Int))),(2,.pp 0 0),(3,.pp 4 0)]
 [(0,0,.pv (.slice none 0 0)),(0,1,.pv (.slice none 0 0)),(0,2,.pv (.slice none 0 0)),(0,3,.pv (.slice none 0 0)),(0,4,.pv (.slice none 0 0)),(4,0,.ls 1 n),(4,1,.ls 2 n),(4,2,.ls 3 n),(4,3,.pv (.slice none 0 0)),(4,4,.ls 5 (List.replicate n (-1:Int)).length),(1,0,.row 3 1 n (ziV (List.replicate n 0))),(2,0,.row 4 1 n (zbV (List.replicate n false))),(3,0,.row 3 1 n (ziV f2)),(5,0,zrI (List.replicate n (-1)))]
 | 0,k,hk=>by
  have:k=n:=by omega
  subst this
  exact qw5 (hge:=decide_eq_false (by omega))
 | d+1,k,hk=>by
  have r:=qkP (f2:=f2) h d (k+1) (by omega)
  rw[show List.replicate (k+1) (-1:Int)=List.replicate k (-1)++[-1] from List.replicate_succ'] at r
  exact qpU (hlt:=decide_eq_true (by omega)) (hn:=by rw[List.length_replicate];omega) (hs:=qaB (by omega)) (r:=r)
theorem qtI {n:Nat} (h:n≤200):Fn 150 0 [.pv (iV (n:Int))] [] (.ag [.ls 0 (List.replicate n (0:Int)).length,.ls 1 (List.replicate n false).length,.ls 2 (qbH n).length,.ls 4 0,.ls 3 (List.replicate n (-1:Int)).length]) 5
 [(0,0,zrI (List.replicate n 0)),(1,0,zrB (List.replicate n false)),(2,0,zrI (qbH n)),(3,0,zrI (List.replicate n (-1))),(4,0,qar [])]:=by
 have:=qtK (qvQ (h6:=qpV h) (r0:=qkP h n 0 (by omega))) ⟨rfl,rfl,rfl,rfl⟩
 simp only[zrI,zrB,List.length_replicate,qaN] at this ⊢
 exact this
end
end Go.Proofs.YtkckcgpmnipnaaaGreat

namespace Go.Proofs.YtkckcgpmnipnaaaGreat
set_option maxRecDepth 100000
open Go.RowKit
structure Ck where
 tn:Int
 td:Int
 s:List Pt
 x:Int
 l:List Pt
 u:List Int
 b:List Bool
 fr:List Int
 ev:List Ev
 wh:List Int
 d:List Pt
abbrev qaP (l:List Pt):SV:=.row 134 3 l.length (qa3 l)
abbrev qaz (c:Ck):SV:=.ag [.pv (iV c.tn),.pv (iV c.td),.ls 0 c.s.length,.pv (iV c.x),.ls 1 c.l.length,.ls 2 c.u.length,.ls 3 c.b.length,.ls 4 c.fr.length,.ls 5 c.ev.length,.ls 6 c.wh.length,.ls 7 c.d.length]
abbrev qaC (c:Ck):List (Nat×Nat×SV):=[(0,0,qad c.s),(1,0,qam c.l),(2,0,zrI c.u),(3,0,zrB c.b),(4,0,zrI c.fr),(5,0,qar c.ev),(6,0,zrI c.wh),(7,0,qaP c.d)]
abbrev qcL (k:Nat) (c:Ck):List (Nat×Nat×SV):=[(k,0,.pv (iV c.tn)),(k,1,.pv (iV c.td)),(k,2,.ls 0 c.s.length),(k,3,.pv (iV c.x)),(k,4,.ls 1 c.l.length),(k,5,.ls 2 c.u.length),(k,6,.ls 3 c.b.length),(k,7,.ls 4 c.fr.length),(k,8,.ls 5 c.ev.length),(k,9,.ls 6 c.wh.length),(k,10,.ls 7 c.d.length),(0,0,qad c.s),(1,0,qam c.l),(2,0,zrI c.u),(3,0,zrB c.b),(4,0,zrI c.fr),(5,0,qar c.ev),(6,0,zrI c.wh),(7,0,qaP c.d)]
abbrev qrc (c:Ck):S1:=.ag [.pv (iV c.tn),.pv (iV c.td),.ls 8 c.s.length,.pv (iV c.x),.ls 9 c.l.length,.ls 10 c.u.length,.ls 11 c.b.length,.ls 12 c.fr.length,.ls 13 c.ev.length,.ls 14 c.wh.length,.ls 15 c.d.length]
abbrev qkn (c:Ck):SV:=.ag [.pv (iV c.tn),.pv (iV c.td),.ls 8 c.s.length,.pv (iV c.x),.ls 9 c.l.length,.ls 10 c.u.length,.ls 11 c.b.length,.ls 12 c.fr.length,.ls 13 c.ev.length,.ls 14 c.wh.length,.ls 15 c.d.length]
abbrev qeR (c:Ck):List (Nat×Nat×SV):=[(8,0,qad c.s),(9,0,qam c.l),(10,0,zrI c.u),(11,0,zrB c.b),(12,0,zrI c.fr),(13,0,qar c.ev),(14,0,zrI c.wh),(15,0,qaP c.d)]
abbrev qiC:Value:=.agg #[iV 0,iV 0,.slice none 0 0,iV 0,.slice none 0 0,.slice none 0 0,.slice none 0 0,.slice none 0 0,.slice none 0 0,.slice none 0 0,.slice none 0 0]
end Go.Proofs.YtkckcgpmnipnaaaGreat

namespace Go.Proofs.YtkckcgpmnipnaaaGreat
set_option maxRecDepth 100000
open Go.RowKit
abbrev qgF (l:List P2):SV:=.row 90 2 l.length (p2V l)
end Go.Proofs.YtkckcgpmnipnaaaGreat

namespace Go.Proofs.YtkckcgpmnipnaaaGreat
set_option maxRecDepth 100000
open Go.RowKit
theorem wn9 {s:List Pt} {q g:Pt} {i j:Nat} {n a b tn td z:Int} {w:Bool} (hg:s[i]?=some g) (hq:s[j]?=some q) (hi:0≤(i:Int)∧(i:Int)<(s.length:Int)) (hj:0≤(j:Int)∧(j:Int)<(s.length:Int)) (ha:Fn 61 1 [qas 0 s,.pv (iV (b))] [(0,0,qad s)] (.pv (iV (i:Int))) 0 []) (hb:Fn 61 1 [qas 0 s,.pv (iV (a))] [(0,0,qad s)] (.pv (iV (j:Int))) 0 []) (hl:Pure Tryz.prog 188 #[ptV g,ptV q,qaa tn td] (.tuple #[qaa n z,.bool w])) :
 Fn 124 1 [qas 0 s,.pv (qah a b),.pv (qaa tn td)] [(0,0,qad s)] (.pv (.tuple #[qaa n z,.bool w])) 0 []:=
 Fz [] [Cf ha [0],.r (ptV g),Cf hb [0],.r (ptV q),Rf hl]
  tI (Co ha [0] 5 (Ai hi (Ai (qaA hg) (Co hb [0] 5 (Ai hj (Ai (qaA hq) (Ai hl tI)))))))
theorem qG1 {c:Ck} (g1:decide ((c.l.length:Int)>40)=true) :
 Fn 28 8 [qaz c] (qaC c) (.pv (.bool true)) 0 []:=
 Fz [] [.t true]
  tI (Ai g1 tI)
theorem qGw {c:Ck} (g1:decide ((c.l.length:Int)>40)=false) (g2:decide ((c.d.length:Int)>40)=true) :
 Fn 28 8 [qaz c] (qaC c) (.pv (.bool true)) 0 []:=
 Fz [] [.t false,.t true]
  tI (Ai g1 (Ai g2 tI))
theorem qEV {c:Ck} (g1:decide ((c.l.length:Int)>40)=false) (g2:decide ((c.d.length:Int)>40)=false) (hf:Fn 10 1 [qas 0 c.s] [(0,0,qad c.s)] (.pv (.bool true)) 0 []) :
 Fn 28 8 [qaz c] (qaC c) (.pv (.bool true)) 0 []:=
 Fz [] [.t false,.t false,Cf hf [0]]
  tI (Ai g1 (Ai g2 (Co hf [0] 9 tI)))
theorem qEI {c:Ck} (g1:decide ((c.l.length:Int)>40)=false) (g2:decide ((c.d.length:Int)>40)=false) (hf:Fn 10 1 [qas 0 c.s] [(0,0,qad c.s)] (.pv (.bool false)) 0 []) (hg:Fn 69 5 [agA c.u c.b c.fr c.ev c.wh] [(0,0,zrI c.u),(1,0,zrB c.b),(2,0,zrI c.fr),(3,0,qar c.ev),(4,0,zrI c.wh)] (.pv (.bool true)) 0 []) :
 Fn 28 8 [qaz c] (qaC c) (.pv (.bool true)) 0 []:=
 Fz [] [.t false,.t false,Cf hf [0],Cf hg [2,3,4,5,6]]
  tI (Ai g1 (Ai g2 (Co hf [0] 9 (Co hg [2,3,4,5,6] 9 tI))))
theorem qz4 {c:Ck} (g1:decide ((c.l.length:Int)>40)=false) (g2:decide ((c.d.length:Int)>40)=false) (hf:Fn 10 1 [qas 0 c.s] [(0,0,qad c.s)] (.pv (.bool false)) 0 []) (hg:Fn 69 5 [agA c.u c.b c.fr c.ev c.wh] [(0,0,zrI c.u),(1,0,zrB c.b),(2,0,zrI c.fr),(3,0,qar c.ev),(4,0,zrI c.wh)] (.pv (.bool false)) 0 []) :
 Fn 28 8 [qaz c] (qaC c) (.pv (.bool false)) 0 []:=
 Fz [] [.t false,.t false,Cf hf [0],Cf hg [2,3,4,5,6]]
  tI (Ai g1 (Ai g2 (Co hf [0] 9 (Co hg [2,3,4,5,6] 9 tI))))
end Go.Proofs.YtkckcgpmnipnaaaGreat

namespace Go.Proofs.YtkckcgpmnipnaaaGreat
set_option maxRecDepth 100000
open Go.ChangeShapes Go.WideShapes Go.ChangeAt Go.RowKit Go.Joins Go.Deep
theorem qAb:Tryz.prog.cellsOf 134=3:=by kernel_rfl
theorem qyh:Tryz.prog.cellsOf 37=1:=by kernel_rfl
theorem qzX:Tryz.prog.cellsOf 24=1:=by kernel_rfl
theorem qA3:Tryz.prog.cellsOf 22=1:=by kernel_rfl
theorem qpR:Tryz.prog.cellsOf 39=11:=by kernel_rfl
section
variable {H:Type} {enc:TypeId×Value→H} {W:World} {base:Nat} {spare:Nat→Bool} {held:Bool}
theorem qh8 {P:Program} {t:TypeId} {f0 f1 f2 f3 f4:Field} {fuel:Nat} {cs:List Value} {x:DataW H×List MemPlace} (ht:P.underlying t=some (.struct #[f0,f1,f2,f3,f4])) (h:DataW.trod enc P W base spare held fuel t cs=some x) :
 ∃ y0 y1 y2 y3 y4 n,cs.length=P.cellsOf t∧DataW.trod enc P W base spare held n f0.type ((cs.drop f0.offset).take (P.cellsOf f0.type))=some y0∧DataW.trod enc P W base spare held n f1.type ((cs.drop f1.offset).take (P.cellsOf f1.type))=some y1∧
  DataW.trod enc P W base spare held n f2.type ((cs.drop f2.offset).take (P.cellsOf f2.type))=some y2∧DataW.trod enc P W base spare held n f3.type ((cs.drop f3.offset).take (P.cellsOf f3.type))=some y3∧DataW.trod enc P W base spare held n f4.type ((cs.drop f4.offset).take (P.cellsOf f4.type))=some y4:=by
 obtain⟨xs,n,_,rfl,hl,hlen,hf⟩:=DataW.trod_struct ht h
 match xs,hlen with
 | [y0,y1,y2,y3,y4],_=>exact⟨y0,y1,y2,y3,y4,n,hl,by simpa using hf 0 f0 rfl,by simpa using hf 1 f1 rfl,by simpa using hf 2 f2 rfl,by simpa using hf 3 f3 rfl,by simpa using hf 4 f4 rfl⟩
theorem qpk {fuel:Nat} {cs:List Value} {x:DataW H×List MemPlace} (h:DataW.trod enc Tryz.prog W base spare held fuel 37 cs=some x) :
 ∃ (u:Value) (l:List Pt),cs=[u]∧Rd W 3 u l.length (qa3 l):=by
 rcases open_slice Tryz.underlying37 h with ⟨rfl,_⟩ | ⟨a,len,cap,m,n,D,Pl,rfl,_,hlc,_,hm,_,hi⟩
 ·exact⟨_,[],rfl,⟨rfl,none,0,rfl,Nat.le_refl _,fun j v hv=>by simp[qa3] at hv⟩⟩
 have hlm:len≤m:=by rw[hm];split<;>omega
 have each:∀ i,i<len→∃ p:Pt,W.cell? (a.add (i*3))=some (iV p.id)∧W.cell? (a.add (i*3+1))=some (iV p.a)∧W.cell? (a.add (i*3+2))=some (iV p.b):=by
  intro i hil
  obtain⟨cs',hc,ht⟩:=hi i (by omega)
  rw[qAb] at hc
  obtain⟨y0,y1,n',_,hlen,t0,t1⟩:=trod_struct2 Tryz.underlying134 ht
  obtain⟨z0,z1,n2,_,hlen2,s0,s1⟩:=trod_struct2 Tryz.underlying59 t1
  obtain⟨_,hcl,hat⟩:=World.cells?_some hc
  match cs',hcl with
  | [c0,c1,c2],_=>
   obtain⟨pi,e0,_,w0⟩:=DataW.trod_int Tryz.underlying3 t0
   obtain⟨pa,e1,_,w1⟩:=DataW.trod_int Tryz.underlying3 s0
   obtain⟨pb,e2,_,w2⟩:=DataW.trod_int Tryz.underlying3 s1
   simp[qAV,qCt] at e0 e1 e2
   refine⟨⟨pi,pa,pb⟩,?_,?_,?_⟩
   ·have:=hat 0 (by omega);rw[add_add] at this;simpa [e0] using this
   ·have:=hat 1 (by omega);rw[add_add] at this;simpa [e1] using this
   ·have:=hat 2 (by omega);rw[add_add] at this;simpa [e2] using this
 haveI:Inhabited Pt:=⟨⟨0,0,0⟩⟩
 obtain⟨f,hf⟩:=choose_lt (α:=Pt) each
 refine⟨_,(List.range len).map f,rfl,⟨qaZ _,some a,cap,by simp,by simpa using hlc,fun j v hv=>?_⟩⟩
 obtain⟨hk,he⟩:=qmq f len j v hv
 obtain⟨c0,c1,c2⟩:=hf _ hk
 have hcell:W.cell? (a.add j)=some v:=by
  have h3:j%3=0∨j%3=1∨j%3=2:=by omega
  have e:j=j/3*3+j%3:=by omega
  rcases h3 with e3 | e3 | e3<;>rw[e3] at he e<;>rw[e]<;>simp at he<;>subst he
  ·exact c0
  ·exact c1
  ·exact c2
 obtain⟨b,off,spot⟩:=a
 have hs:spot=none:=by simpa [Addr.add] using World.cell?_spot (hf 0 (by omega)).1
 subst hs
 exact⟨b,off,rfl,by rw[← Go.WideShapes.add_plain];exact hcell⟩
abbrev ckR (c:Ck):List (TypeId×Nat×Nat×List Value):=[(137,3,c.s.length,qa3 c.s),(171,3,c.l.length,qa3 c.l),(3,1,c.u.length,ziV c.u),(4,1,c.b.length,zbV c.b),(3,1,c.fr.length,ziV c.fr),(61,5,c.ev.length,qbf c.ev),(3,1,c.wh.length,ziV c.wh),(134,3,c.d.length,qa3 c.d)]
end
end Go.Proofs.YtkckcgpmnipnaaaGreat

namespace Go.Proofs.YtkckcgpmnipnaaaGreat
set_option maxRecDepth 100000
open Go.RowKit
theorem qGZ {c:Ck} (h1:Pure Tryz.prog 45 #[qaa c.tn c.td] (iV (8))) :
 Fn 60 8 [qaz c] (qaC c) (.pv (iV (8))) 0 []:=
 Fz [] [Rf h1,.k]
  tI (Ai h1 tI)
abbrev qp4 (c:Ck):Prop:=Pure Tryz.prog 45 #[qaa c.tn c.td] (iV (0))
theorem qFW {c:Ck} {n:Int} (h1:qp4 c) (h2:Fn 38 1 [qas 0 c.s] [(0,0,qad c.s)] (.pv (iV (n))) 0 []) (hne:(n !=0)=true) :
 Fn 60 8 [qaz c] (qaC c) (.pv (iV (8))) 0 []:=
 Fz [] [Rf h1,.k,Cf h2 [0],.t true]
  tI (Ai h1 (Co h2 [0] 9 (Ai hne tI)))
abbrev qt5 (c:Ck):Prop:=Fn 38 1 [qas 0 c.s] [(0,0,qad c.s)] (.pv (iV (0))) 0 []
theorem qGu {c:Ck} (h1:qp4 c) (h2:qt5 c) (h3:Fn 121 1 [qaS 0 c.x c.l] [(0,0,qam c.l)] (.pv (iV (8))) 0 []) :
 Fn 60 8 [qaz c] (qaC c) (.pv (iV (8))) 0 []:=
 Fz [] [Rf h1,.k,Cf h2 [0],.k,Cf h3 [1],.k]
  tI (Ai h1 (Co h2 [0] 9 (Co h3 [1] 9 tI)))
abbrev qym (c:Ck):Prop:=Fn 121 1 [qaS 0 c.x c.l] [(0,0,qam c.l)] (.pv (iV (0))) 0 []
theorem qE2 {c:Ck} (h1:qp4 c) (h2:qt5 c) (h3:qym c) (h4:Fn 122 2 [qaS 0 c.x c.l,qas 1 c.s] [(0,0,qam c.l),(1,0,qad c.s)] (.pv (.bool false)) 0 []) :
 Fn 60 8 [qaz c] (qaC c) (.pv (iV (8))) 0 []:=
 Fz [] [Rf h1,.k,Cf h2 [0],.k,Cf h3 [1],.k,Cf h4 [1,0],.k]
  tI (Ai h1 (Co h2 [0] 9 (Co h3 [1] 9 (Co h4 [1,0] 9 tI))))
abbrev qEe (c:Ck):HpL:=[(0,0,zrI c.u),(1,0,zrB c.b),(2,0,zrI c.fr),(3,0,qar c.ev),(4,0,zrI c.wh)]
abbrev qzh (c:Ck):Prop:=Fn 122 2 [qaS 0 c.x c.l,qas 1 c.s] [(0,0,qam c.l),(1,0,qad c.s)] (.pv (.bool true)) 0 []
theorem qGN {c:Ck} (h1:qp4 c) (h2:qt5 c) (h3:qym c) (h4:qzh c) (h5:Fn 123 5 [agA c.u c.b c.fr c.ev c.wh] (qEe c) (.pv (iV (8))) 0 []) :
 Fn 60 8 [qaz c] (qaC c) (.pv (iV (8))) 0 []:=
 Fz [] [Rf h1,.k,Cf h2 [0],.k,Cf h3 [1],.k,Cf h4 [1,0],.k,Cf h5 [2,3,4,5,6],.k]
  tI (Ai h1 (Co h2 [0] 9 (Co h3 [1] 9 (Co h4 [1,0] 9 (Co h5 [2,3,4,5,6] 9 tI)))))
abbrev qzA (c:Ck):Prop:=Fn 123 5 [agA c.u c.b c.fr c.ev c.wh] (qEe c) (.pv (iV (0))) 0 []
theorem qEt {c:Ck} (h1:qp4 c) (h2:qt5 c) (h3:qym c) (h4:qzh c) (h5:qzA c) (h6:((c.wh.length:Int) !=200)=true) :
 Fn 60 8 [qaz c] (qaC c) (.pv (iV (8))) 0 []:=
 Fz [] [Rf h1,.k,Cf h2 [0],.k,Cf h3 [1],.k,Cf h4 [1,0],.k,Cf h5 [2,3,4,5,6],.k,.t true]
  tI (Ai h1 (Co h2 [0] 9 (Co h3 [1] 9 (Co h4 [1,0] 9 (Co h5 [2,3,4,5,6] 9 (Ai h6 tI))))))
theorem qFp {c:Ck} (h1:qp4 c) (h2:qt5 c) (h3:qym c) (h4:qzh c) (h5:qzA c) (h6:((c.wh.length:Int) !=200)=false) (h7:((c.ev.length:Int) !=(c.d.length:Int))=true) :
 Fn 60 8 [qaz c] (qaC c) (.pv (iV (8))) 0 []:=
 Fz [] [Rf h1,.k,Cf h2 [0],.k,Cf h3 [1],.k,Cf h4 [1,0],.k,Cf h5 [2,3,4,5,6],.k,.t false,.t true]
  tI (Ai h1 (Co h2 [0] 9 (Co h3 [1] 9 (Co h4 [1,0] 9 (Co h5 [2,3,4,5,6] 9 (Ai h6 (Ai h7 tI)))))))
abbrev qun (j:Nat) (k:Nat):TmL:=[(1,.pp 8 0),(3,.pv (iV (j:Int))),(4,.pv (iV (k:Int)))]
theorem qtx {c:Ck} {p:Pt} {j k:Nat} {n z:Int} (hk:c.l[k]?=some p) (hin:0≤(k:Int)∧(k:Int)<(c.l.length:Int)) (hlt:decide ((k:Int)<(c.l.length:Int))=true) (hw:Fn 124 1 [qas 0 c.s,.pv (qah p.a p.b),.pv (qaa c.tn c.td)] [(0,0,qad c.s)] (.pv (.tuple #[qaa n z,.bool false])) 0 []) (hs:iV (IntKind.i64.wrap ((k:Int)+1))=iV (((k+1:Nat):Int))) {e:Exit} {tm2:TmL} {hp2:HpL}
 (r:Rl 8 8 60 0 133 9 ([(1,.pp 8 0),(3,.pv (iV (j:Int))),(4,.pv (iV ((k+1:Nat):Int)))]) (qcL 8 c) e tm2 hp2):Rl 8 8 60 0 133 9 (qun j k) (qcL 8 c) e tm2 hp2:=
 RunsL.next [] 300 [.t true,.r (ptV p),Cf hw [0],.k,Re hs]
  (Ro (Ai hlt (Ai hin (Ai (qaA hk) (Co hw [0] 10 (Ai hs tI)))))) r
abbrev qzb (c:Ck) (n:Int) (p:Pt) (z:Int):Prop:=Fn 124 1 [qas 0 c.s,.pv (qah p.a p.b),.pv (qaa c.tn c.td)] [(0,0,qad c.s)] (.pv (.tuple #[qaa n z,.bool true])) 0 []
theorem qys {c:Ck} {p:Pt} {j k:Nat} {n z:Int} (hk:c.l[k]?=some p) (hin:0≤(k:Int)∧(k:Int)<(c.l.length:Int)) (hlt:decide ((k:Int)<(c.l.length:Int))=true) (hw:qzb c n p z) (hj:decide ((j:Int)≥(c.d.length:Int))=true):Rl 8 8 60 0 133 9 (qun j k) (qcL 8 c) (.ret) ([(2,.pv (iV 8))]) ([]):=
 RunsL.stop [] 300 [.t true,.r (ptV p),Cf hw [0],.k,.t true] (fun h=>by cases h)
  (Ro (Ai hlt (Ai hin (Ai (qaA hk) (Co hw [0] 10 (Ai hj tI))))))
theorem qwL {c:Ck} {p q:Pt} {j k:Nat} {n z:Int} (hk:c.l[k]?=some p) (hin:0≤(k:Int)∧(k:Int)<(c.l.length:Int)) (hlt:decide ((k:Int)<(c.l.length:Int))=true) (hq:c.d[j]?=some q) (hiq:0≤(j:Int)∧(j:Int)<(c.d.length:Int)) (hw:qzb c n p z) (hj:decide ((j:Int)≥(c.d.length:Int))=false) (hne:(q.id !=p.id)=true):Rl 8 8 60 0 133 9 (qun j k) (qcL 8 c) (.ret) ([(2,.pv (iV 8))]) ([]):=
 RunsL.stop [] 300 [.t true,.r (ptV p),Cf hw [0],.k,.t false,.r (iV q.id),.t true] (fun h=>by cases h)
  (Ro (Ai hlt (Ai hin (Ai (qaA hk) (Co hw [0] 10 (Ai hj (Ai hiq (Ai (qk7 hq) (Ai hne tI)))))))))
theorem qq4 {c:Ck} {p q:Pt} {j k:Nat} {n z e:Int} {y:Ev} (hk:c.l[k]?=some p) (hin:0≤(k:Int)∧(k:Int)<(c.l.length:Int)) (hlt:decide ((k:Int)<(c.l.length:Int))=true) (hq:c.d[j]?=some q) (hiq:0≤(j:Int)∧(j:Int)<(c.d.length:Int)) (hw:qzb c n p z) (hj:decide ((j:Int)≥(c.d.length:Int))=false) (hne:(q.id !=p.id)=false) (hf:Fn 125 5 [agA c.u c.b c.fr c.ev c.wh,.pv (qbb q.a q.b)] (qEe c) (.pv (.tuple #[qae y,iV (e)])) 0 []) (he:(e !=0)=true):Rl 8 8 60 0 133 9 (qun j k) (qcL 8 c) (.ret) ([(2,.pv (iV 8))]) ([]):=
 RunsL.stop [] 300 [.t true,.r (ptV p),Cf hw [0],.k,.t false,.r (iV q.id),.t false,.r (qbb q.a q.b),Cf hf [2,3,4,5,6],.t true] (fun h=>by cases h)
  (Ro (Ai hlt (Ai hin (Ai (qaA hk) (Co hw [0] 10 (Ai hj (Ai hiq (Ai (qk7 hq) (Ai hne (Ai hiq (Ai (qfp hq) (Co hf [2,3,4,5,6] 11 (Ai he tI)))))))))))))
abbrev qxr (c:Ck) (q:Pt) (y:Ev):Prop:=Fn 125 5 [agA c.u c.b c.fr c.ev c.wh,.pv (qbb q.a q.b)] (qEe c) (.pv (.tuple #[qae y,iV (0)])) 0 []
theorem qn5 {c:Ck} {p q:Pt} {j k:Nat} {n z:Int} {y:Ev} (hk:c.l[k]?=some p) (hin:0≤(k:Int)∧(k:Int)<(c.l.length:Int)) (hlt:decide ((k:Int)<(c.l.length:Int))=true) (hq:c.d[j]?=some q) (hiq:0≤(j:Int)∧(j:Int)<(c.d.length:Int)) (hw:qzb c n p z) (hj:decide ((j:Int)≥(c.d.length:Int))=false) (hne:(q.id !=p.id)=false) (hf:qxr c q y) (hk2:(y.k !=p.id)=true):Rl 8 8 60 0 133 9 (qun j k) (qcL 8 c) (.ret) ([(2,.pv (iV 8))]) ([]):=
 RunsL.stop [] 300 [.t true,.r (ptV p),Cf hw [0],.k,.t false,.r (iV q.id),.t false,.r (qbb q.a q.b),Cf hf [2,3,4,5,6],.k,.t true] (fun h=>by cases h)
  (Ro (Ai hlt (Ai hin (Ai (qaA hk) (Co hw [0] 10 (Ai hj (Ai hiq (Ai (qk7 hq) (Ai hne (Ai hiq (Ai (qfp hq) (Co hf [2,3,4,5,6] 11 (Ai hk2 tI)))))))))))))
theorem qrP {c:Ck} {p q:Pt} {j k:Nat} {n z:Int} {y:Ev} (hk:c.l[k]?=some p) (hin:0≤(k:Int)∧(k:Int)<(c.l.length:Int)) (hlt:decide ((k:Int)<(c.l.length:Int))=true) (hq:c.d[j]?=some q) (hiq:0≤(j:Int)∧(j:Int)<(c.d.length:Int)) (hw:qzb c n p z) (hj:decide ((j:Int)≥(c.d.length:Int))=false) (hne:(q.id !=p.id)=false) (hf:qxr c q y) (hk2:(y.k !=p.id)=false) (ht2:(!(y.n==n&&(y.d==z&&true)))=true):Rl 8 8 60 0 133 9 (qun j k) (qcL 8 c) (.ret) ([(2,.pv (iV 8))]) ([]):=
 RunsL.stop [] 300 [.t true,.r (ptV p),Cf hw [0],.k,.t false,.r (iV q.id),.t false,.r (qbb q.a q.b),Cf hf [2,3,4,5,6],.k,.t false,.t true] (fun h=>by cases h)
  (Ro (Ai hlt (Ai hin (Ai (qaA hk) (Co hw [0] 10 (Ai hj (Ai hiq (Ai (qk7 hq) (Ai hne (Ai hiq (Ai (qfp hq) (Co hf [2,3,4,5,6] 11 (Ai hk2 (Ai ht2 tI))))))))))))))
theorem qpS {c:Ck} {p q:Pt} {j k:Nat} {n z:Int} {y:Ev} (hk:c.l[k]?=some p) (hin:0≤(k:Int)∧(k:Int)<(c.l.length:Int)) (hlt:decide ((k:Int)<(c.l.length:Int))=true) (hq:c.d[j]?=some q) (hiq:0≤(j:Int)∧(j:Int)<(c.d.length:Int)) (hw:qzb c n p z) (hj:decide ((j:Int)≥(c.d.length:Int))=false) (hne:(q.id !=p.id)=false) (hf:qxr c q y) (hk2:(y.k !=p.id)=false) (ht2:(!(y.n==n&&(y.d==z&&true)))=false) (hs2:iV (IntKind.i64.wrap ((j:Int)+1))=iV (((j+1:Nat):Int))) (hs:iV (IntKind.i64.wrap ((k:Int)+1))=iV (((k+1:Nat):Int))) {e:Exit} {tm2:TmL} {hp2:HpL}
 (r:Rl 8 8 60 0 133 9 ([(1,.pp 8 0),(3,.pv (iV ((j+1:Nat):Int))),(4,.pv (iV ((k+1:Nat):Int)))]) (qcL 8 c) e tm2 hp2):Rl 8 8 60 0 133 9 (qun j k) (qcL 8 c) e tm2 hp2:=
 RunsL.next [] 300 [.t true,.r (ptV p),Cf hw [0],.k,.t false,.r (iV q.id),.t false,.r (qbb q.a q.b),Cf hf [2,3,4,5,6],.k,.t false,.t false,Re hs2,Re hs]
  (Ro (Ai hlt (Ai hin (Ai (qaA hk) (Co hw [0] 10 (Ai hj (Ai hiq (Ai (qk7 hq) (Ai hne (Ai hiq (Ai (qfp hq) (Co hf [2,3,4,5,6] 11 (Ai hk2 (Ai ht2 (Ai hs2 (Ai hs tI)))))))))))))))) r
theorem qyd {c:Ck} {j k:Nat} (hge:decide ((k:Int)<(c.l.length:Int))=false):Rl 8 8 60 0 133 9 (qun j k) (qcL 8 c) (.exit 0) ([(1,.pp 8 0),(3,.pv (iV (j:Int)))]) (qcL 8 c):=
 RunsL.stop [] 300 [.t false] (fun h=>by cases h)
  (Ro (Ai hge tI))
theorem qvK {c:Ck} (h1:qp4 c) (h2:qt5 c) (h3:qym c) (h4:qzh c) (h5:qzA c) (h6:((c.wh.length:Int) !=200)=false) (h7:((c.ev.length:Int) !=(c.d.length:Int))=false) (r0:Rl 8 8 60 0 133 9 ([(1,.pp 8 0),(3,.pv (iV ((0:Nat):Int))),(4,.pv (iV ((0:Nat):Int)))]) (qcL 8 c) (.ret) ([(2,.pv (iV 8))]) ([])) :
 Fn 60 8 [qaz c] (qaC c) (.pv (iV (8))) 0 []:=
 Fz [] [Rf h1,.k,Cf h2 [0],.k,Cf h3 [1],.k,Cf h4 [1,0],.k,Cf h5 [2,3,4,5,6],.k,.t false,.t false,Lf r0]
  tI (Ai h1 (Co h2 [0] 9 (Co h3 [1] 9 (Co h4 [1,0] 9 (Co h5 [2,3,4,5,6] 9 (Ai h6 (Ai h7 (Lo r0 [] tI))))))))
abbrev qHv (c:Ck) (j:Nat):Prop:=Rl 8 8 60 0 133 9 ([(1,.pp 8 0),(3,.pv (iV ((0:Nat):Int))),(4,.pv (iV ((0:Nat):Int)))]) (qcL 8 c) (.exit 0) ([(1,.pp 8 0),(3,.pv (iV (j:Int)))]) (qcL 8 c)
theorem qqu {c:Ck} {j:Nat} (h1:qp4 c) (h2:qt5 c) (h3:qym c) (h4:qzh c) (h5:qzA c) (h6:((c.wh.length:Int) !=200)=false) (h7:((c.ev.length:Int) !=(c.d.length:Int))=false) (r0:qHv c j) (hd:((j:Int) !=(c.d.length:Int))=true) :
 Fn 60 8 [qaz c] (qaC c) (.pv (iV (8))) 0 []:=
 Fz [] [Rf h1,.k,Cf h2 [0],.k,Cf h3 [1],.k,Cf h4 [1,0],.k,Cf h5 [2,3,4,5,6],.k,.t false,.t false,Lf r0,.t true]
  tI (Ai h1 (Co h2 [0] 9 (Co h3 [1] 9 (Co h4 [1,0] 9 (Co h5 [2,3,4,5,6] 9 (Ai h6 (Ai h7 (Lo r0 [] (Ai hd tI)))))))))
theorem qBY {c:Ck} {j:Nat} (h1:qp4 c) (h2:qt5 c) (h3:qym c) (h4:qzh c) (h5:qzA c) (h6:((c.wh.length:Int) !=200)=false) (h7:((c.ev.length:Int) !=(c.d.length:Int))=false) (r0:qHv c j) (hd:((j:Int) !=(c.d.length:Int))=false) :
 Fn 60 8 [qaz c] (qaC c) (.pv (iV (0))) 0 []:=
 Fz [] [Rf h1,.k,Cf h2 [0],.k,Cf h3 [1],.k,Cf h4 [1,0],.k,Cf h5 [2,3,4,5,6],.k,.t false,.t false,Lf r0,.t false]
  tI (Ai h1 (Co h2 [0] 9 (Co h3 [1] 9 (Co h4 [1,0] 9 (Co h5 [2,3,4,5,6] 9 (Ai h6 (Ai h7 (Lo r0 [] (Ai hd tI)))))))))
end Go.Proofs.YtkckcgpmnipnaaaGreat

namespace Go.Proofs.YtkckcgpmnipnaaaGreat
set_option maxRecDepth 100000
open Go.RowKit
theorem qEM (c:Ck):SV.ag [.pv (iV c.tn),.pv (iV c.td),.ls 10 c.s.length,.pv (iV c.x),.ls 11 c.l.length,.ls 12 c.u.length,.ls 13 c.b.length,.ls 14 c.fr.length,.ls 15 c.ev.length,.ls 16 c.wh.length,.ls 18 (0+c.d.length)]=(qkn c).ren (qaK [(8,10),(9,11),(10,12),(11,13),(12,14),(13,15),(14,16),(15,18)]):=by rw[Nat.zero_add];rfl
theorem qnQ (p:Pt):(!(p.id==p.id&&((p.a==p.a&&(p.b==p.b&&true))&&true)))=false:=by simp
theorem qnd (a b:Int):(!(a==a&&(b==b&&true)))=false:=by simp
theorem qsY {c:Ck} (hf:Fn 70 1 [qas 0 c.s] [(0,0,qad c.s)] (.ag [.ls 1 c.s.length]) 1 [(1,0,qad c.s)]) (hs:Fn 71 1 [qaS 0 c.x c.l] [(0,0,qam c.l)] (.ag [.pv (iV c.x),.ls 1 c.l.length]) 1 [(1,0,qam c.l)]) (ha:Fn 72 5 [agA c.u c.b c.fr c.ev c.wh] [(0,0,zrI c.u),(1,0,zrB c.b),(2,0,zrI c.fr),(3,0,qar c.ev),(4,0,zrI c.wh)] (.ag [.ls 5 c.u.length,.ls 6 c.b.length,.ls 7 c.fr.length,.ls 8 c.ev.length,.ls 9 c.wh.length]) 5 [(5,0,zrI c.u),(6,0,zrB c.b),(7,0,zrI c.fr),(8,0,qar c.ev),(9,0,zrI c.wh)]) (hn:0+c.d.length≤1000000) :
 Fn 29 8 [qaz c] (qaC c) (qkn c) 8 (qeR c):=
 Fx [(8,10),(9,11),(10,12),(11,13),(12,14),(13,15),(14,16),(15,18)] [.md,Cf hf [0],Cf hs [1],Cf ha [2,3,4,5,6]]
  (qEM c) (Ai (Er (qad c.s)) (Ai (Er (qam c.l)) (Ai (Er (zrI c.u)) (Ai (Er (zrB c.b)) (Ai (Er (zrI c.fr)) (Ai (Er (qar c.ev)) (Ai (Er (zrI c.wh)) (Ai (qjd 134 3 c.d.length (qa3 c.d)) tI)))))))) (Co hf [0] 10 (Co hs [1] 11 (Co ha [2,3,4,5,6] 12 (Ai hn tI))))
abbrev qDy (c:Ck):HpL:=[(16,10,.ls 7 c.d.length),(17,10,.ls 15 c.d.length),(7,0,qaP c.d),(15,0,qaP c.d)]
theorem qrB {c:Ck} {p:Pt} {k:Nat} (hk:c.d[k]?=some p) (hin:0≤(k:Int)∧(k:Int)<(c.d.length:Int)) (hlt:decide ((k:Int)<(c.d.length:Int))=true) (hs:iV (IntKind.i64.wrap ((k:Int)+1))=iV (((k+1:Nat):Int))) {e:Exit} {tm2:TmL} {hp2:HpL}
 (r:Rl 16 16 32 0 62 18 ([(2,.pp 16 0),(3,.pp 17 0),(5,.pv (iV ((k+1:Nat):Int)))]) (qDy c) e tm2 hp2):Rl 16 16 32 0 62 18 ([(2,.pp 16 0),(3,.pp 17 0),(5,.pv (iV (k:Int)))]) (qDy c) e tm2 hp2:=
 RunsL.next [] 300 [.t true,.r (ptV p),.r (ptV p),.t false,Re hs]
  (Ro (Ai hlt (Ai hin (Ai (qaA hk) (Ai hin (Ai (qaA hk) (Ai (qnQ p) (Ai hs tI)))))))) r
theorem qw7 {c:Ck} {k:Nat} (hge:decide ((k:Int)<(c.d.length:Int))=false):Rl 16 16 32 0 62 18 ([(2,.pp 16 0),(3,.pp 17 0),(5,.pv (iV (k:Int)))]) (qDy c) (.exit 0) ([]) ([]):=
 RunsL.stop [] 300 [.t false] (fun h=>by cases h)
  (Ro (Ai hge tI))
theorem qwG {c:Ck} (hf:Fn 41 2 [qas 0 c.s,qas 1 c.s] [(0,0,qad c.s),(1,0,qad c.s)] (.pv (.bool true)) 0 []) (hs:Fn 79 2 [qaS 0 c.x c.l,qaS 1 c.x c.l] [(0,0,qam c.l),(1,0,qam c.l)] (.pv (.bool true)) 0 []) (ha:Fn 80 10 [agA c.u c.b c.fr c.ev c.wh,.ag [.ls 5 c.u.length,.ls 6 c.b.length,.ls 7 c.fr.length,.ls 8 c.ev.length,.ls 9 c.wh.length]] [(0,0,zrI c.u),(1,0,zrB c.b),(2,0,zrI c.fr),(3,0,qar c.ev),(4,0,zrI c.wh),(5,0,zrI c.u),(6,0,zrB c.b),(7,0,zrI c.fr),(8,0,qar c.ev),(9,0,zrI c.wh)] (.pv (.bool true)) 0 []) (r0:Rl 16 16 32 0 62 18 ([(2,.pp 16 0),(3,.pp 17 0),(5,.pv (iV ((0:Nat):Int)))]) (qDy c) (.exit 0) ([]) ([])) :
 Fn 32 16 [qaz c,qkn c] [(0,0,qad c.s),(1,0,qam c.l),(2,0,zrI c.u),(3,0,zrB c.b),(4,0,zrI c.fr),(5,0,qar c.ev),(6,0,zrI c.wh),(7,0,qaP c.d),(8,0,qad c.s),(9,0,qam c.l),(10,0,zrI c.u),(11,0,zrB c.b),(12,0,zrI c.fr),(13,0,qar c.ev),(14,0,zrI c.wh),(15,0,qaP c.d)] (.pv (.bool true)) 0 []:=
 Fz [] [.t false,Cf hf [0,8],.k,Cf hs [1,9],.k,Cf ha [2,3,4,5,6,10,11,12,13,14],.k,.t false,Lf r0]
  tI (Ai (qnd c.tn c.td) (Co hf [0,8] 18 (Co hs [1,9] 18 (Co ha [2,3,4,5,6,10,11,12,13,14] 18 (Ai (qvB (c.d.length:Int)) (Lo r0 [] tI))))))
theorem qsb {o:Ck} {s:List Pt} {tn td:Int} (hf:Fn 70 1 [qas 0 s] [(0,0,qad s)] (.ag [.ls 1 s.length]) 1 [(1,0,qad s)]) (hb:Fn 150 0 [.pv (iV (200))] [] (.ag [.ls 0 o.u.length,.ls 1 o.b.length,.ls 2 o.fr.length,.ls 4 0,.ls 3 o.wh.length]) 5 [(0,0,zrI o.u),(1,0,zrB o.b),(2,0,zrI o.fr),(3,0,zrI o.wh),(4,0,qar [])]) :
 Fn 82 1 [qas 0 s,.pv (qaa tn td)] [(0,0,qad s)] (.ag [.pv (iV tn),.pv (iV td),.ls 1 s.length,.pv (iV 0),.pv (.slice none 0 0),.ls 2 o.u.length,.ls 3 o.b.length,.ls 4 o.fr.length,.ls 6 0,.ls 5 o.wh.length,.pv (.slice none 0 0)]) 6 [(1,0,qad s),(2,0,zrI o.u),(3,0,zrB o.b),(4,0,zrI o.fr),(5,0,zrI o.wh),(6,0,qar [])]:=
 Fz [(1,4),(2,5),(3,6),(4,7),(5,8),(6,9)] [.md,Cf hf [0],Cf hb []]
  (qaE (qaK [(1,4),(2,5),(3,6),(4,7),(5,8),(6,9)]) [(1,0,qad s),(2,0,zrI o.u),(3,0,zrB o.b),(4,0,zrI o.fr),(5,0,zrI o.wh),(6,0,qar [])]) (Co hf [0] 4 (Co hb [] 5 tI))
end Go.Proofs.YtkckcgpmnipnaaaGreat
