/-
  Joined: Vk, Vl, Vm, Vo, Lb, Lc, Ld, Le, Lf. Conditions: none.
-/
import Derived.Test.YtkjaanhddkkodaaGreatW39
import Derived.Test.YtkjaanhddkkodaaGreatW18
import Derived.Test.YtkjaanhddkkodaaGreatW27
import Derived.Test.YtkjaanhddkkodaaGreatW26
import Derived.Test.YtkjaanhddkkodaaGreatSxP
namespace Go.Proofs.YtkjaanhddkkodaaGreat
set_option maxRecDepth 100000
open Go.RowKit
section
variable {u fr wh:List Int} {b:List Bool} {ev:List Ev}
theorem qiI {u' fr':List Int} {b':List Bool} {x z:Int} (h:Vd u b fr) (ht:qbC u b fr=some (u',b',fr',x,z)) :
 Fn 177 3 [.ag [.ls 0 u.length,.ls 1 b.length,.ls 2 fr.length]] [(0,0,zrI u),(1,0,zrB b),(2,0,zrI fr)] (.tu [.ag [.ls 3 u'.length,.ls 4 b'.length,.ls 5 fr'.length],.one (.pv (qaK x z))]) 3 [(3,0,zrI u'),(4,0,zrB b'),(5,0,zrI fr')]:=by
 have hfl:=h.frlen
 have hle:=h.le
 obtain⟨y,h1,h2,h3,rfl,rfl,rfl,rfl⟩:=qbt ht
 obtain⟨e,hg,h4⟩:=qbs h1
 have hx:x∈fr:=by rw[e];simp
 obtain⟨r1,r2⟩:=h.rng x hx
 have hbk:x.toNat<b.length:=by rw[h.len];omega
 have hy:=h.use x.toNat y _ h2 (List.getElem?_eq_getElem hbk)
 have hy0:0≤y:=by have:=hy.1;split at this<;>omega
 have hl:iV (IntKind.i64.wrap ((fr.length:Int)-1))=iV ((fr.length-1:Nat):Int):=by rw[show ((fr.length:Int)-1)=((fr.length-1:Nat):Int) by omega];exact qa4 (by omega) (by omega)
 have key:=rtk (m:=fr.length-1) (z:=y+1) (qdM h.small) hl (by omega) hg (by omega) ⟨r1,r2⟩ h2 (by omega) ⟨r1,by rw[h.len];exact r2⟩ hbk (by rw[List.getElem?_set,if_pos rfl,if_pos (by omega)]) (qa4 (by omega) (by omega))
 have ef:fr.dropLast=fr.take (fr.length-1):=List.dropLast_eq_take
 have el:(fr.take (fr.length-1)).length=fr.length-1:=by rw[List.length_take];omega
 have e1:(ziV fr).take ((fr.length-1)*1)=ziV (fr.take (fr.length-1)):=by simp[ziV,List.map_take]
 rw[e1] at key
 simp only[zrI,zrB,List.length_set]
 rw[ef,el]
 exact key
theorem qiZ {hi hw:Int} (h:Vd u b fr) (hl:Live u b hi hw) :
 Fn 180 3 [.ag [.ls 0 u.length,.ls 1 b.length,.ls 2 fr.length],.pv (qaK hi hw)] [(0,0,zrI u),(1,0,zrB b),(2,0,zrI fr)] (.ag [.ls 3 u.length,.ls 4 (b.set hi.toNat false).length,.ls 5 (fr++[hi]).length]) 3 [(3,0,zrI u),(4,0,zrB (b.set hi.toNat false)),(5,0,zrI (fr++[hi]))]:=by
 have h0:=hl.lo
 have h1:hi<(b.length:Int):=by rw[h.len];exact hl.lt
 have key:=rgi (hw:=hw) (qdM h.small) ⟨h0,h1⟩ (by omega) (by have:=h.frlen;omega)
 simp only[zrI,zrB,List.length_set,List.length_append,List.length_singleton]
 rw[qbb]
 exact key
theorem qnP (h:VA u b fr ev wh):Fn 54 5 [agA u b fr ev wh] (agP u b fr ev wh) (.ag [.ls 5 u.length,.ls 6 b.length,.ls 7 fr.length,.ls 8 ev.length,.ls 9 wh.length]) 5 [(5,0,zrI u),(6,0,zrB b),(7,0,zrI fr),(8,0,qar ev),(9,0,zrI wh)]:=by
 have hlen:=h.lens
 exact qGB (h6:=qdM h.vd.small) (ne:=by omega) (nw:=by omega)
theorem qiF {tn td z:Int} {u2 f2:List Int} {b2:List Bool} {hi hw:Int} (ht:I64 tn∧I64 td) (h0:okB tn td=true) (h:VA u b fr ev wh) (hz:0≤z∧z≤1000000) (hk:qbC u b fr=some (u2,b2,f2,hi,hw)) :
 Fn 124 5 [agA u b fr ev wh,.pv (qad tn td),.pv (iV z)] (agP u b fr ev wh)
  (.tu [qAh (qa3 ev wh ⟨tn,td,z,hi,hw⟩).1 u2 b2 f2 (qa3 ev wh ⟨tn,td,z,hi,hw⟩).2,.one (.pv (qaK hi hw))]) 5 (qg3 (qa3 ev wh ⟨tn,td,z,hi,hw⟩).1 u2 b2 f2 (qa3 ev wh ⟨tn,td,z,hi,hw⟩).2):=by
 have hlen:=h.lens
 have hin:=qjo h.vd hk
 have I:=qgI (x:=⟨tn,td,z,hi,hw⟩) h.inv ⟨ht,h0,hz.1,hz.2⟩ ⟨hin.1,by have:=hin.2;simp only;omega⟩
 obtain⟨J,_⟩:=qcV (d:=ev.length) (i:=ev.length) (by omega) (by omega) I
 have j1:(qa3 ev wh ⟨tn,td,z,hi,hw⟩).1.length=ev.length+1:=J.len
 have j2:(qa3 ev wh ⟨tn,td,z,hi,hw⟩).2.length=wh.length:=J.wl
 simp only[qAh,qg3,qar,zrI,j1,j2]
 have r:=qAw (u2:=u2) (b2:=b2) (f2:=f2) (hi:=hi) (hw:=hw) (n:=ev.length+1) (by omega) ev.length ev.length (ev++[⟨tn,td,z,hi,hw⟩]) (wh.set hi.toNat (ev.length:Int)) (by omega) (by omega) I
 exact qsm (p:=_) (la:=ev.length) (ev3:=(qa3 ev wh ⟨tn,td,z,hi,hw⟩).1) (wh3:=(qa3 ev wh ⟨tn,td,z,hi,hw⟩).2) (htw:=qnP h) (htk:=qiI h.vd hk) (hl:=by omega) (hla:=by rw[show ((ev.length+1:Nat):Int)-1=(ev.length:Int) by omega];exact qa4 (by omega) (by omega)) (hiw:=⟨hin.1,by have:=hin.2;omega⟩) (hws:=by omega) (r0:=r)
theorem qp7 {k la:Nat} {x xl:Ev} (hk:k<la):(((ev.set k xl).set la x).take la)=(ev.take la).set k xl:=by
 apply List.ext_getElem?
 intro j
 simp only[List.getElem?_take,List.getElem?_set,List.length_take,List.length_set]
 by_cases h:j<la
 ·rw[if_pos h,if_neg (show ¬ la=j by omega)]
  by_cases e:k=j
  ·rw[if_pos e,if_pos e]
   by_cases g:k<ev.length
   ·rw[if_pos g,if_pos (by omega)]
   ·rw[if_neg g,if_neg (by omega)]
  ·rw[if_neg e,if_neg e,if_pos h]
 ·rw[if_neg h,if_neg (by omega),if_neg h]
theorem qhv {x:Ev} {k:Nat} (h:VA u b fr ev wh) (hx:ev[k]?=some x) :
 Fn 126 5 [agA u b fr ev wh,.pv (qaK x.i x.w)] (agP u b fr ev wh)
  (.ag [.ls 5 u.length,.ls 6 (b.set x.i.toNat false).length,.ls 7 (fr++[x.i]).length,.ls 8 (qal ev wh k x).1.length,.ls 9 (qal ev wh k x).2.length]) 5 (qg3 (qal ev wh k x).1 u (b.set x.i.toNat false) (fr++[x.i]) (qal ev wh k x).2):=by
 obtain⟨hlv,hwx⟩:=h.own hx
 have hlen:=h.lens
 have hI:=h.inv
 have hk:k<ev.length:=(List.getElem?_eq_some_iff.1 hx).1
 have hg:=qiZ h.vd hlv
 have hla:iV (IntKind.i64.wrap ((ev.length:Int)-1))=iV ((ev.length-1:Nat):Int):=by rw[show (ev.length:Int)-1=((ev.length-1:Nat):Int) by omega];exact qa4 (by omega) (by omega)
 have hwi:=hI.ix x (List.mem_of_getElem? hx)
 by_cases hm:k<ev.length-1
 ·obtain⟨xl,hxl⟩:∃ xl,ev[ev.length-1]?=some xl:=⟨_,List.getElem?_eq_getElem (by omega)⟩
  have hwl:=hI.ix xl (List.mem_of_getElem? hxl)
  have hne:x.i≠xl.i:=fun e=>by
   have:=h.con.inj hx hxl e
   omega
  have e:qal ev wh k x=qbN (ev.length-1) ((ev.take (ev.length-1)).set k xl) ((wh.set x.i.toNat (-1)).set xl.i.toNat (k:Int)) k:=by unfold qal;rw[if_pos hm,hxl]
  have I:=qdq (x:=x) hI hm hxl
  have e1:(((ev.set k xl).set (ev.length-1) x).take (ev.length-1))=(ev.take (ev.length-1)).set k xl:=qp7 hm
  have e2:(((wh.set xl.i.toNat (k:Int)).set x.i.toNat ((ev.length-1:Nat):Int)).set x.i.toNat (-1))=((wh.set x.i.toNat (-1)).set xl.i.toNat (k:Int)):=by
   rw[List.set_set,List.set_comm _ _ (by omega)]
  rw[← e1,← e2] at I e
  have J:=qcw hm I
  obtain⟨K,hp⟩:=qcV (d:=k) (Nat.le_refl _) hm I
  rw[e]
  simp only[qg3,qar,zrI,J.len,J.wl]
  have r0:=qvX (u2:=u) (b2:=b.set x.i.toNat false) (f2:=fr++[x.i]) (n:=ev.length-1) (by omega) k k _ _ (Nat.le_refl _) hm I
  have r1:=qwH (u2:=u) (b2:=b.set x.i.toNat false) (f2:=fr++[x.i]) (n:=ev.length-1) (by omega) (ev.length-1) _ _ _ (by omega) hp K
  refine quW (n:=0) (mm:=0) (p:=_) (la:=ev.length-1) (x:=x) (xl:=xl) (htw:=qnP h) (hiw:=hwi) (hwk:=hwx) (hla:=hla) (hne:=by simp;omega) (hin_x:=⟨by omega,by omega⟩) (he_x:=hx) (hin_xl:=⟨by omega,by omega⟩) (he_xl:=hxl) (hsa:=hk) (hsb:=by rw[List.length_set];omega) (h2a:=qx5 rfl (by omega) (by omega) (by omega)) (h2b:=qyd rfl (by omega) (by omega) (by omega)) (hwb:=hwl) (hwbl:=by omega) (hwa:=hwi) (hwal:=by rw[List.length_set];omega) (hll:=by omega) (hws:=by rw[List.length_set,List.length_set];omega) (hg:=hg) (r0:=r0) (r1:=?_)
  exact r1
 ·have e:qal ev wh k x=(ev.take (ev.length-1),wh.set x.i.toNat (-1)):=by unfold qal;rw[if_neg hm]
  have e1:(ev.take (ev.length-1)).length=ev.length-1:=by rw[List.length_take];omega
  rw[e]
  have e2:(wh.set x.i.toNat (-1)).length=wh.length:=List.length_set ..
  simp only[qg3,qar,zrI,e1,e2]
  exact qtO (la:=ev.length-1) (htw:=qnP h) (hiw:=hwi) (hwk:=hwx) (hla:=hla) (hne:=by simp;omega) (hll:=by omega) (hws:=by omega) (hg:=hg)
end
end Go.Proofs.YtkjaanhddkkodaaGreat

namespace Go.Proofs.YtkjaanhddkkodaaGreat
set_option maxRecDepth 100000
open Go.RowKit
section
variable {u fr wh:List Int} {b:List Bool} {ev:List Ev}
theorem qlD {hi hw:Int} (h:VA u b fr ev wh) (hl:¬ Live u b hi hw):Fn 78 5 [agA u b fr ev wh,.pv (qaK hi hw)] (agP u b fr ev wh) (.pv (.tuple #[evZ,iV 6])) 0 []:=qpG (hc:=qea h) (hl:=qkF h.vd hl)
theorem qli {hi hw:Int} {j:Nat} {x:Ev} (h:VA u b fr ev wh) (hl:Live u b hi hw) (hj:wh[hi.toNat]?=some (j:Int)) (hx:ev[j]?=some x):Fn 78 5 [agA u b fr ev wh,.pv (qaK hi hw)] (agP u b fr ev wh) (.pv (.tuple #[qac x,iV 0])) 0 []:=by
 have:=(List.getElem?_eq_some_iff.1 hj).1
 have:=(List.getElem?_eq_some_iff.1 hx).1
 have:=hl.lo
 exact qBS (hc:=qea h) (hl:=qhT h.vd hl) (hiw:=by omega) (hw_:=hj) (hij:=by omega) (hx:=hx)
end
end Go.Proofs.YtkjaanhddkkodaaGreat

namespace Go.Proofs.YtkjaanhddkkodaaGreat
set_option maxRecDepth 100000
open Go.RowKit
theorem qAc (b:Nat) (g:List Int) (x:Int):some (SV.ls b (g.length+1))=some (SV.ls b (g++[x]).length):=by rw[List.length_append];rfl
theorem qt9 (g:List Int) (x:Int):some (SV.row 3 1 (g.length+1) (ziV g++[iV x]))=some (zrI (g++[x])):=by rw[zrI,qbb,List.length_append];rfl
abbrev qCR (f2:List Int) (g:List Int) (n:Nat):HpL:=[(0,0,.pv (.slice none 0 0)),(0,1,.pv (.slice none 0 0)),(0,2,.pv (.slice none 0 0)),(0,3,.pv (.slice none 0 0)),(0,4,.pv (.slice none 0 0)),(4,0,.ls 1 n),(4,1,.ls 2 n),(4,2,.ls 3 n),(4,3,.pv (.slice none 0 0)),(4,4,.ls 5 (g).length),(1,0,.row 3 1 n (ziV (List.replicate n 0))),(2,0,.row 4 1 n (zbV (List.replicate n false))),(3,0,.row 3 1 n (ziV f2)),(5,0,zrI (g))]
theorem qpY {f2 g:List Int} {k n:Nat} (hlt:decide ((k:Int)<(n:Int))=true) (hn:g.length+1≤1000000) (hs:iV (IntKind.i64.wrap ((k:Int)+1))=iV (((k+1:Nat):Int))) {e:Exit} {tm2:TmL} {hp2:HpL}
 (r:Rl 0 0 15 0 19 6 ([(0,.pv (iV (n:Int))),(2,.pp 0 0),(3,.pp 4 0),(4,.pv (iV ((k+1:Nat):Int)))]) ([(0,0,.pv (.slice none 0 0)),(0,1,.pv (.slice none 0 0)),(0,2,.pv (.slice none 0 0)),(0,3,.pv (.slice none 0 0)),(0,4,.pv (.slice none 0 0)),(4,0,.ls 1 n),(4,1,.ls 2 n),(4,2,.ls 3 n),(4,3,.pv (.slice none 0 0)),(4,4,.ls 5 (g++[-1]).length),(1,0,.row 3 1 n (ziV (List.replicate n 0))),(2,0,.row 4 1 n (zbV (List.replicate n false))),(3,0,.row 3 1 n (ziV f2)),(5,0,zrI (g++[-1]))]) e tm2 hp2):Rl 0 0 15 0 19 6 ([(0,.pv (iV (n:Int))),(2,.pp 0 0),(3,.pp 4 0),(4,.pv (iV (k:Int)))]) (qCR f2 g n) e tm2 hp2:=
 RunsL.next [(5,7)] 300 [.t true,Re hs]
  (qfR (Ai (Eq.refl (SV.pv (iV (n:Int)))) (Ai (Eq.refl (SV.pp 0 0)) (Ai (Eq.refl (SV.pp 4 0)) (Ai (Eq.refl (SV.pv (iV ((k+1:Nat):Int)))) tI)))) (Ai (Eq.refl (some (SV.pv (.slice none 0 0)))) (Ai (Eq.refl (some (SV.pv (.slice none 0 0)))) (Ai (Eq.refl (some (SV.pv (.slice none 0 0)))) (Ai (Eq.refl (some (SV.pv (.slice none 0 0)))) (Ai (Eq.refl (some (SV.pv (.slice none 0 0)))) (Ai (Eq.refl (some (SV.ls 1 n))) (Ai (Eq.refl (some (SV.ls 2 n))) (Ai (Eq.refl (some (SV.ls 3 n))) (Ai (Eq.refl (some (SV.pv (.slice none 0 0)))) (Ai (qAc 7 g (-1)) (Ai (Eq.refl (some (SV.row 3 1 n (ziV (List.replicate n 0))))) (Ai (Eq.refl (some (SV.row 4 1 n (zbV (List.replicate n false))))) (Ai (Eq.refl (some (SV.row 3 1 n (ziV f2)))) (Ai (qt9 g (-1)) tI)))))))))))))) (Ai hlt (Ai hn (Ai hs tI))) (by kernel_rfl)) r
theorem qvH {f2 g:List Int} {k n:Nat} (hge:decide ((k:Int)<(n:Int))=false):Rl 0 0 15 0 19 6 ([(0,.pv (iV (n:Int))),(2,.pp 0 0),(3,.pp 4 0),(4,.pv (iV (k:Int)))]) (qCR f2 g n) (.exit 0) ([(0,.pv (iV (n:Int))),(2,.pp 0 0),(3,.pp 4 0)]) (qCR f2 g n):=
 RunsL.stop [] 300 [.t false] (fun h=>by cases h)
  (qab (Ai hge tI) (by kernel_rfl))
theorem qvl {f2 g:List Int} {n:Nat} (h6:Fn 55 0 [.pv (iV (n:Int))] [] (.ag [.ls 0 n,.ls 1 n,.ls 2 n]) 3 [(0,0,.row 3 1 n (ziV (List.replicate n 0))),(1,0,.row 4 1 n (zbV (List.replicate n false))),(2,0,.row 3 1 n (ziV f2))]) (r0:Rl 0 0 15 0 19 6 ([(0,.pv (iV (n:Int))),(2,.pp 0 0),(3,.pp 4 0),(4,.pv (iV ((0:Nat):Int)))]) ([(0,0,.pv (.slice none 0 0)),(0,1,.pv (.slice none 0 0)),(0,2,.pv (.slice none 0 0)),(0,3,.pv (.slice none 0 0)),(0,4,.pv (.slice none 0 0)),(4,0,.ls 1 n),(4,1,.ls 2 n),(4,2,.ls 3 n),(4,3,.pv (.slice none 0 0)),(4,4,.ls 5 ([]:List Int).length),(1,0,.row 3 1 n (ziV (List.replicate n 0))),(2,0,.row 4 1 n (zbV (List.replicate n false))),(3,0,.row 3 1 n (ziV f2)),(5,0,zrI ([]:List Int))]) (.exit 0) ([(0,.pv (iV (n:Int))),(2,.pp 0 0),(3,.pp 4 0)]) (qCR f2 g n)) :
 Fn 15 0 [.pv (iV (n:Int))] [] (.ag [.ls 0 n,.ls 1 n,.ls 2 n,.pv (.slice none 0 0),.ls 3 g.length]) 4 [(0,0,.row 3 1 n (ziV (List.replicate n 0))),(1,0,.row 4 1 n (zbV (List.replicate n false))),(2,0,.row 3 1 n (ziV f2)),(3,0,zrI g)]:=
 qaa 300 [(0,1),(1,2),(2,3),(3,5)] [Cf h6 [],.ln false 4 4 3 1,Lf r0]
  (qaF (qaP [(0,1),(1,2),(2,3),(3,5)]) [(0,0,.row 3 1 n (ziV (List.replicate n 0))),(1,0,.row 4 1 n (zbV (List.replicate n false))),(2,0,.row 3 1 n (ziV f2)),(3,0,zrI g)]) (Co h6 [] 1 (Lo r0 [] tI)) (by kernel_rfl)
end Go.Proofs.YtkjaanhddkkodaaGreat

namespace Go.Proofs.YtkjaanhddkkodaaGreat
set_option maxRecDepth 100000
open Go.RowKit
section
variable {u fr wh:List Int} {b:List Bool} {ev:List Ev}
theorem qjP (hl:ev.length≤1000000):∀ (d k:Nat),k+d=ev.length→Rl 10 10 67 0 47 12 [(2,.pp 10 0),(3,.pp 11 0),(5,.pv (iV (k:Int)))] [(10,0,.ls 0 u.length),(10,1,.ls 1 b.length),(10,2,.ls 2 fr.length),(10,3,.ls 3 ev.length),(10,4,.ls 4 wh.length),(11,0,.ls 5 u.length),(11,1,.ls 6 b.length),(11,2,.ls 7 fr.length),(11,3,.ls 8 ev.length),(11,4,.ls 9 wh.length),(3,0,qar ev),(8,0,qar ev)] (.exit 0) [] []
 | 0,k,hk=>qtX (hge:=decide_eq_false (by omega))
 | d+1,k,hk=>by
  have hx:ev[k]?=some (ev[k]'(by omega)):=List.getElem?_eq_getElem (by omega)
  exact qpU (hk:=hx) (hin:=by omega) (hlt:=decide_eq_true (by omega)) (hq:=by simp) (hs:=qaG (by omega)) (r:=qjP hl d (k+1) (by omega))
theorem qri (hg:qb8 u b fr=false) (hl:ev.length≤1000000) (hw:wh.length≤1000000):Fn 67 10 [agA u b fr ev wh,.ag [.ls 5 u.length,.ls 6 b.length,.ls 7 fr.length,.ls 8 ev.length,.ls 9 wh.length]] [(0,0,zrI u),(1,0,zrB b),(2,0,zrI fr),(3,0,qar ev),(4,0,zrI wh),(5,0,zrI u),(6,0,zrB b),(7,0,zrI fr),(8,0,qar ev),(9,0,zrI wh)] (.pv (.bool true)) 0 []:=
 qpB (hi:=0) (qqz hg) (qg1 hw) (by simp) (qjP hl ev.length 0 (by omega))
theorem qsI {n:Nat} (h:n≤200):Fn 55 0 [.pv (iV (n:Int))] [] (.ag [.ls 0 n,.ls 1 n,.ls 2 n]) 3 [(0,0,.row 3 1 n (ziV (List.replicate n 0))),(1,0,.row 4 1 n (zbV (List.replicate n false))),(2,0,.row 3 1 n (ziV (qbW n)))]:=by
 have hb:=qCB (n:=n) (g:=qbW n) (by omega) (by omega) (qa4 (by omega) (by omega)) (by
  have:=qoR (n:=n) (by omega) n 0 (by omega)
  rw[show (n:Int)-1-((0:Nat):Int)=(n:Int)-1 by omega] at this
  exact this) (qaZ n)
 rw[zrI,qaZ] at hb
 exact hb
theorem qka {n:Nat} {f2:List Int} (h:n≤200):∀ (d k:Nat),k+d=n→Rl 0 0 15 0 19 6 [(0,.pv (iV (n:Int))),(2,.pp 0 0),(3,.pp 4 0),(4,.pv (iV (k:Int)))]
 [(0,0,.pv (.slice none 0 0)),(0,1,.pv (.slice none 0 0)),(0,2,.pv (.slice none 0 0)),(0,3,.pv (.slice none 0 0)),(0,4,.pv (.slice none 0 0)),(4,0,.ls 1 n),(4,1,.ls 2 n),(4,2,.ls 3 n),(4,3,.pv (.slice none 0 0)),(4,4,.ls 5 (List.replicate k (-1:Int)).length),(1,0,.row 3 1 n (ziV (List.replicate n 0))),(2,0,.row 4 1 n (zbV (List.replicate n false))),(3,0,.row 3 1 n (ziV f2)),(5,0,zrI (List.replicate k (-1)))] (.exit 0) [(0,.pv (iV (n:Int))),(2,.pp 0 0),(3,.pp 4 0)]
 [(0,0,.pv (.slice none 0 0)),(0,1,.pv (.slice none 0 0)),(0,2,.pv (.slice none 0 0)),(0,3,.pv (.slice none 0 0)),(0,4,.pv (.slice none 0 0)),(4,0,.ls 1 n),(4,1,.ls 2 n),(4,2,.ls 3 n),(4,3,.pv (.slice none 0 0)),(4,4,.ls 5 (List.replicate n (-1:Int)).length),(1,0,.row 3 1 n (ziV (List.replicate n 0))),(2,0,.row 4 1 n (zbV (List.replicate n false))),(3,0,.row 3 1 n (ziV f2)),(5,0,zrI (List.replicate n (-1)))]
 | 0,k,hk=>by
  have:k=n:=by omega
  subst this
  exact qvH (hge:=decide_eq_false (by omega))
 | d+1,k,hk=>by
  have r:=qka (f2:=f2) h d (k+1) (by omega)
  rw[show List.replicate (k+1) (-1:Int)=List.replicate k (-1)++[-1] from List.replicate_succ'] at r
  exact qpY (hlt:=decide_eq_true (by omega)) (hn:=by rw[List.length_replicate];omega) (hs:=qaG (by omega)) (r:=r)
theorem qru {n:Nat} (h:n≤200):Fn 15 0 [.pv (iV (n:Int))] [] (.ag [.ls 0 (List.replicate n (0:Int)).length,.ls 1 (List.replicate n false).length,.ls 2 (qbW n).length,.ls 4 0,.ls 3 (List.replicate n (-1:Int)).length]) 5
 [(0,0,zrI (List.replicate n 0)),(1,0,zrB (List.replicate n false)),(2,0,zrI (qbW n)),(3,0,zrI (List.replicate n (-1))),(4,0,qar [])]:=by
 have:=qpm (qvl (h6:=qsI h) (r0:=qka h n 0 (by omega))) ⟨rfl,rfl,rfl,rfl⟩
 simp only[zrI,zrB,List.length_replicate,qaZ] at this ⊢
 exact this
end
end Go.Proofs.YtkjaanhddkkodaaGreat

namespace Go.Proofs.YtkjaanhddkkodaaGreat
set_option maxRecDepth 100000
open Go.RowKit
structure Ck where
 tn:Int
 td:Int
 s:List Pt
 x:Int
 l:List Pt
 u:List Int
 b:List Bool
 fr:List Int
 ev:List Ev
 wh:List Int
 d:List Pt
abbrev qaX (l:List Pt):SV:=.row 54 3 l.length (qbr l)
abbrev qap (c:Ck):SV:=.ag [.pv (iV c.tn),.pv (iV c.td),.ls 0 c.s.length,.pv (iV c.x),.ls 1 c.l.length,.ls 2 c.u.length,.ls 3 c.b.length,.ls 4 c.fr.length,.ls 5 c.ev.length,.ls 6 c.wh.length,.ls 7 c.d.length]
abbrev qas (c:Ck):List (Nat×Nat×SV):=[(0,0,qao c.s),(1,0,qan c.l),(2,0,zrI c.u),(3,0,zrB c.b),(4,0,zrI c.fr),(5,0,qar c.ev),(6,0,zrI c.wh),(7,0,qaX c.d)]
abbrev qca (k:Nat) (c:Ck):List (Nat×Nat×SV):=[(k,0,.pv (iV c.tn)),(k,1,.pv (iV c.td)),(k,2,.ls 0 c.s.length),(k,3,.pv (iV c.x)),(k,4,.ls 1 c.l.length),(k,5,.ls 2 c.u.length),(k,6,.ls 3 c.b.length),(k,7,.ls 4 c.fr.length),(k,8,.ls 5 c.ev.length),(k,9,.ls 6 c.wh.length),(k,10,.ls 7 c.d.length),(0,0,qao c.s),(1,0,qan c.l),(2,0,zrI c.u),(3,0,zrB c.b),(4,0,zrI c.fr),(5,0,qar c.ev),(6,0,zrI c.wh),(7,0,qaX c.d)]
abbrev qeY (c:Ck):S1:=.ag [.pv (iV c.tn),.pv (iV c.td),.ls 8 c.s.length,.pv (iV c.x),.ls 9 c.l.length,.ls 10 c.u.length,.ls 11 c.b.length,.ls 12 c.fr.length,.ls 13 c.ev.length,.ls 14 c.wh.length,.ls 15 c.d.length]
abbrev qfG (c:Ck):SV:=.ag [.pv (iV c.tn),.pv (iV c.td),.ls 8 c.s.length,.pv (iV c.x),.ls 9 c.l.length,.ls 10 c.u.length,.ls 11 c.b.length,.ls 12 c.fr.length,.ls 13 c.ev.length,.ls 14 c.wh.length,.ls 15 c.d.length]
abbrev qbT (c:Ck):List (Nat×Nat×SV):=[(8,0,qao c.s),(9,0,qan c.l),(10,0,zrI c.u),(11,0,zrB c.b),(12,0,zrI c.fr),(13,0,qar c.ev),(14,0,zrI c.wh),(15,0,qaX c.d)]
abbrev qbz:Value:=.agg #[iV 0,iV 0,.slice none 0 0,iV 0,.slice none 0 0,.slice none 0 0,.slice none 0 0,.slice none 0 0,.slice none 0 0,.slice none 0 0,.slice none 0 0]
end Go.Proofs.YtkjaanhddkkodaaGreat

namespace Go.Proofs.YtkjaanhddkkodaaGreat
set_option maxRecDepth 100000
open Go.RowKit
theorem wn9 {s:List Pt} {q g:Pt} {i j:Nat} {n a b tn td z:Int} {w:Bool} (hg:s[i]?=some g) (hq:s[j]?=some q) (hi:0≤(i:Int)∧(i:Int)<(s.length:Int)) (hj:0≤(j:Int)∧(j:Int)<(s.length:Int)) (ha:Fn 72 1 [qaC 0 s,.pv (iV (b))] [(0,0,qao s)] (.pv (iV (i:Int))) 0 []) (hb:Fn 72 1 [qaC 0 s,.pv (iV (a))] [(0,0,qao s)] (.pv (iV (j:Int))) 0 []) (hl:Pure Tryz.prog 83 #[ptV g,ptV q,qad tn td] (.tuple #[qad n z,.bool w])) :
 Fn 39 1 [qaC 0 s,.pv (qag a b),.pv (qad tn td)] [(0,0,qao s)] (.pv (.tuple #[qad n z,.bool w])) 0 []:=
 qaa 300 [] [Cf ha [0],.r (ptV g),Cf hb [0],.r (ptV q),Rf hl]
  tI (Co ha [0] 5 (Ai hi (Ai (qaR hg) (Co hb [0] 5 (Ai hj (Ai (qaR hq) (Ai hl tI))))))) (by kernel_rfl)
theorem qkO {c:Ck} {p:Pt} {k:Nat} {n:Int} (hk:c.d[k]?=some p) (hin:0≤(k:Int)∧(k:Int)<(c.d.length:Int)) (hlt:decide ((k:Int)<(c.d.length:Int))=true) (he:(p.id==n)=false) (hs:iV (IntKind.i64.wrap ((k:Int)+1))=iV (((k+1:Nat):Int))) {e:Exit} {tm2:TmL} {hp2:HpL}
 (r:Rl 8 8 46 0 22 9 ([(1,.pv (iV n)),(2,.pp 8 0),(5,.pv (iV ((k+1:Nat):Int)))]) (qca 8 c) e tm2 hp2):Rl 8 8 46 0 22 9 ([(1,.pv (iV n)),(2,.pp 8 0),(5,.pv (iV (k:Int)))]) (qca 8 c) e tm2 hp2:=
 RunsL.next [] 300 [.t true,.r (iV p.id),.t false,Re hs]
  (qab (Ai hlt (Ai hin (Ai (qiU hk) (Ai he (Ai hs tI))))) (by kernel_rfl)) r
theorem qwh {c:Ck} {p:Pt} {k:Nat} {n:Int} (hk:c.d[k]?=some p) (hin:0≤(k:Int)∧(k:Int)<(c.d.length:Int)) (hlt:decide ((k:Int)<(c.d.length:Int))=true) (he:(p.id==n)=true):Rl 8 8 46 0 22 9 ([(1,.pv (iV n)),(2,.pp 8 0),(5,.pv (iV (k:Int)))]) (qca 8 c) (.ret) ([(4,.pv (iV (k:Int)))]) ([]):=
 RunsL.stop [] 300 [.t true,.r (iV p.id),.t true] (fun h=>by cases h)
  (qab (Ai hlt (Ai hin (Ai (qiU hk) (Ai he tI)))) (by kernel_rfl))
theorem qve {c:Ck} {k:Nat} {n:Int} (hge:decide ((k:Int)<(c.d.length:Int))=false):Rl 8 8 46 0 22 9 ([(1,.pv (iV n)),(2,.pp 8 0),(5,.pv (iV (k:Int)))]) (qca 8 c) (.exit 0) ([]) ([]):=
 RunsL.stop [] 300 [.t false] (fun h=>by cases h)
  (qab (Ai hge tI) (by kernel_rfl))
theorem qAp {c:Ck} {n:Int} (r0:Rl 8 8 46 0 22 9 ([(1,.pv (iV n)),(2,.pp 8 0),(5,.pv (iV ((0:Nat):Int)))]) (qca 8 c) (.exit 0) ([]) ([])) :
 Fn 46 8 [qap c,.pv (iV (n))] (qas c) (.pv (iV (-1))) 0 []:=
 qaa 300 [] [Lf r0]
  tI (Lo r0 [] tI) (by kernel_rfl)
theorem qxC {c:Ck} {k:Nat} {n:Int} (r0:Rl 8 8 46 0 22 9 ([(1,.pv (iV n)),(2,.pp 8 0),(5,.pv (iV ((0:Nat):Int)))]) (qca 8 c) (.ret) ([(4,.pv (iV (k:Int)))]) ([])) :
 Fn 46 8 [qap c,.pv (iV (n))] (qas c) (.pv (iV (k:Int))) 0 []:=
 qaa 300 [] [Lf r0]
  tI (Lo r0 [] tI) (by kernel_rfl)
theorem qtF {c:Ck} (hc:Fn 31 8 [qap c] (qas c) (.pv (iV (8))) 0 []) :
 Fn 30 8 [qap c] (qas c) (.pv (.tuple #[.agg #[iV 0,iV 0,iV 0,iV 0,iV 0],iV 8])) 0 []:=
 qaa 300 [] [Cf hc [0,1,2,3,4,5,6,7],.k]
  tI (Co hc [0,1,2,3,4,5,6,7] 10 tI) (by kernel_rfl)
theorem qqY {c:Ck} (hc:Fn 31 8 [qap c] (qas c) (.pv (iV (0))) 0 []) (h0:((c.ev.length:Int)==0)=true) :
 Fn 30 8 [qap c] (qas c) (.pv (.tuple #[.agg #[iV 0,iV 0,iV 0,iV 0,iV 0],iV 42])) 0 []:=
 qaa 300 [] [Cf hc [0,1,2,3,4,5,6,7],.k,.t true]
  tI (Co hc [0,1,2,3,4,5,6,7] 10 (Ai h0 tI)) (by kernel_rfl)
theorem qz4 {c:Ck} {y:Ev} (hc:Fn 31 8 [qap c] (qas c) (.pv (iV (0))) 0 []) (h0:((c.ev.length:Int)==0)=false) (hy:c.ev[0]?=some y) (hin:0≤(0:Int)∧(0:Int)<(c.ev.length:Int)) :
 Fn 30 8 [qap c] (qas c) (.pv (.tuple #[qac y,iV 0])) 0 []:=
 qaa 300 [] [Cf hc [0,1,2,3,4,5,6,7],.k,.t false,.r (qac y)]
  tI (Co hc [0,1,2,3,4,5,6,7] 10 (Ai h0 (Ai hin (Ai (qaQ hy) tI)))) (by kernel_rfl)
theorem qFY {c:Ck} (g1:decide ((c.l.length:Int)>40)=true) :
 Fn 26 8 [qap c] (qas c) (.pv (.bool true)) 0 []:=
 qaa 300 [] [.t true]
  tI (Ai g1 tI) (by kernel_rfl)
theorem qD4 {c:Ck} (g1:decide ((c.l.length:Int)>40)=false) (g2:decide ((c.d.length:Int)>40)=true) :
 Fn 26 8 [qap c] (qas c) (.pv (.bool true)) 0 []:=
 qaa 300 [] [.t false,.t true]
  tI (Ai g1 (Ai g2 tI)) (by kernel_rfl)
theorem qFT {c:Ck} (g1:decide ((c.l.length:Int)>40)=false) (g2:decide ((c.d.length:Int)>40)=false) (hf:Fn 25 1 [qaC 0 c.s] [(0,0,qao c.s)] (.pv (.bool true)) 0 []) :
 Fn 26 8 [qap c] (qas c) (.pv (.bool true)) 0 []:=
 qaa 300 [] [.t false,.t false,Cf hf [0]]
  tI (Ai g1 (Ai g2 (Co hf [0] 9 tI))) (by kernel_rfl)
theorem qGe {c:Ck} (g1:decide ((c.l.length:Int)>40)=false) (g2:decide ((c.d.length:Int)>40)=false) (hf:Fn 25 1 [qaC 0 c.s] [(0,0,qao c.s)] (.pv (.bool false)) 0 []) (hg:Fn 68 5 [agA c.u c.b c.fr c.ev c.wh] [(0,0,zrI c.u),(1,0,zrB c.b),(2,0,zrI c.fr),(3,0,qar c.ev),(4,0,zrI c.wh)] (.pv (.bool true)) 0 []) :
 Fn 26 8 [qap c] (qas c) (.pv (.bool true)) 0 []:=
 qaa 300 [] [.t false,.t false,Cf hf [0],Cf hg [2,3,4,5,6]]
  tI (Ai g1 (Ai g2 (Co hf [0] 9 (Co hg [2,3,4,5,6] 9 tI)))) (by kernel_rfl)
theorem qA9 {c:Ck} (g1:decide ((c.l.length:Int)>40)=false) (g2:decide ((c.d.length:Int)>40)=false) (hf:Fn 25 1 [qaC 0 c.s] [(0,0,qao c.s)] (.pv (.bool false)) 0 []) (hg:Fn 68 5 [agA c.u c.b c.fr c.ev c.wh] [(0,0,zrI c.u),(1,0,zrB c.b),(2,0,zrI c.fr),(3,0,qar c.ev),(4,0,zrI c.wh)] (.pv (.bool false)) 0 []) :
 Fn 26 8 [qap c] (qas c) (.pv (.bool false)) 0 []:=
 qaa 300 [] [.t false,.t false,Cf hf [0],Cf hg [2,3,4,5,6]]
  tI (Ai g1 (Ai g2 (Co hf [0] 9 (Co hg [2,3,4,5,6] 9 tI)))) (by kernel_rfl)
end Go.Proofs.YtkjaanhddkkodaaGreat

namespace Go.Proofs.YtkjaanhddkkodaaGreat
set_option maxRecDepth 100000
open Go.RowKit
theorem qFC {c:Ck} (h1:Pure Tryz.prog 75 #[qad c.tn c.td] (iV (8))) :
 Fn 31 8 [qap c] (qas c) (.pv (iV (8))) 0 []:=
 qaa 300 [] [Rf h1,.k]
  tI (Ai h1 tI) (by kernel_rfl)
abbrev qrp (c:Ck):Prop:=Pure Tryz.prog 75 #[qad c.tn c.td] (iV (0))
theorem qF4 {c:Ck} {n:Int} (h1:qrp c) (h2:Fn 44 1 [qaC 0 c.s] [(0,0,qao c.s)] (.pv (iV (n))) 0 []) (hne:(n !=0)=true) :
 Fn 31 8 [qap c] (qas c) (.pv (iV (8))) 0 []:=
 qaa 300 [] [Rf h1,.k,Cf h2 [0],.t true]
  tI (Ai h1 (Co h2 [0] 9 (Ai hne tI))) (by kernel_rfl)
abbrev qsT (c:Ck):Prop:=Fn 44 1 [qaC 0 c.s] [(0,0,qao c.s)] (.pv (iV (0))) 0 []
theorem qDN {c:Ck} (h1:qrp c) (h2:qsT c) (h3:Fn 76 1 [qaM 0 c.x c.l] [(0,0,qan c.l)] (.pv (iV (8))) 0 []) :
 Fn 31 8 [qap c] (qas c) (.pv (iV (8))) 0 []:=
 qaa 300 [] [Rf h1,.k,Cf h2 [0],.k,Cf h3 [1],.k]
  tI (Ai h1 (Co h2 [0] 9 (Co h3 [1] 9 tI))) (by kernel_rfl)
abbrev qu4 (c:Ck):Prop:=Fn 76 1 [qaM 0 c.x c.l] [(0,0,qan c.l)] (.pv (iV (0))) 0 []
theorem qFd {c:Ck} (h1:qrp c) (h2:qsT c) (h3:qu4 c) (h4:Fn 45 2 [qaM 0 c.x c.l,qaC 1 c.s] [(0,0,qan c.l),(1,0,qao c.s)] (.pv (.bool false)) 0 []) :
 Fn 31 8 [qap c] (qas c) (.pv (iV (8))) 0 []:=
 qaa 300 [] [Rf h1,.k,Cf h2 [0],.k,Cf h3 [1],.k,Cf h4 [1,0],.k]
  tI (Ai h1 (Co h2 [0] 9 (Co h3 [1] 9 (Co h4 [1,0] 9 tI)))) (by kernel_rfl)
abbrev qCZ (c:Ck):HpL:=[(0,0,zrI c.u),(1,0,zrB c.b),(2,0,zrI c.fr),(3,0,qar c.ev),(4,0,zrI c.wh)]
abbrev qx0 (c:Ck):Prop:=Fn 45 2 [qaM 0 c.x c.l,qaC 1 c.s] [(0,0,qan c.l),(1,0,qao c.s)] (.pv (.bool true)) 0 []
theorem qF1 {c:Ck} (h1:qrp c) (h2:qsT c) (h3:qu4 c) (h4:qx0 c) (h5:Fn 77 5 [agA c.u c.b c.fr c.ev c.wh] (qCZ c) (.pv (iV (8))) 0 []) :
 Fn 31 8 [qap c] (qas c) (.pv (iV (8))) 0 []:=
 qaa 300 [] [Rf h1,.k,Cf h2 [0],.k,Cf h3 [1],.k,Cf h4 [1,0],.k,Cf h5 [2,3,4,5,6],.k]
  tI (Ai h1 (Co h2 [0] 9 (Co h3 [1] 9 (Co h4 [1,0] 9 (Co h5 [2,3,4,5,6] 9 tI))))) (by kernel_rfl)
abbrev qzO (c:Ck):Prop:=Fn 77 5 [agA c.u c.b c.fr c.ev c.wh] (qCZ c) (.pv (iV (0))) 0 []
theorem qFy {c:Ck} (h1:qrp c) (h2:qsT c) (h3:qu4 c) (h4:qx0 c) (h5:qzO c) (h6:((c.wh.length:Int) !=200)=true) :
 Fn 31 8 [qap c] (qas c) (.pv (iV (8))) 0 []:=
 qaa 300 [] [Rf h1,.k,Cf h2 [0],.k,Cf h3 [1],.k,Cf h4 [1,0],.k,Cf h5 [2,3,4,5,6],.k,.t true]
  tI (Ai h1 (Co h2 [0] 9 (Co h3 [1] 9 (Co h4 [1,0] 9 (Co h5 [2,3,4,5,6] 9 (Ai h6 tI)))))) (by kernel_rfl)
theorem qED {c:Ck} (h1:qrp c) (h2:qsT c) (h3:qu4 c) (h4:qx0 c) (h5:qzO c) (h6:((c.wh.length:Int) !=200)=false) (h7:((c.ev.length:Int) !=(c.d.length:Int))=true) :
 Fn 31 8 [qap c] (qas c) (.pv (iV (8))) 0 []:=
 qaa 300 [] [Rf h1,.k,Cf h2 [0],.k,Cf h3 [1],.k,Cf h4 [1,0],.k,Cf h5 [2,3,4,5,6],.k,.t false,.t true]
  tI (Ai h1 (Co h2 [0] 9 (Co h3 [1] 9 (Co h4 [1,0] 9 (Co h5 [2,3,4,5,6] 9 (Ai h6 (Ai h7 tI))))))) (by kernel_rfl)
abbrev qsM (j:Nat) (k:Nat):TmL:=[(1,.pp 8 0),(3,.pv (iV (j:Int))),(4,.pv (iV (k:Int)))]
theorem qqv {c:Ck} {p:Pt} {j k:Nat} {n z:Int} (hk:c.l[k]?=some p) (hin:0≤(k:Int)∧(k:Int)<(c.l.length:Int)) (hlt:decide ((k:Int)<(c.l.length:Int))=true) (hw:Fn 39 1 [qaC 0 c.s,.pv (qag p.a p.b),.pv (qad c.tn c.td)] [(0,0,qao c.s)] (.pv (.tuple #[qad n z,.bool false])) 0 []) (hs:iV (IntKind.i64.wrap ((k:Int)+1))=iV (((k+1:Nat):Int))) {e:Exit} {tm2:TmL} {hp2:HpL}
 (r:Rl 8 8 31 0 133 9 ([(1,.pp 8 0),(3,.pv (iV (j:Int))),(4,.pv (iV ((k+1:Nat):Int)))]) (qca 8 c) e tm2 hp2):Rl 8 8 31 0 133 9 (qsM j k) (qca 8 c) e tm2 hp2:=
 RunsL.next [] 300 [.t true,.r (ptV p),Cf hw [0],.k,Re hs]
  (qab (Ai hlt (Ai hin (Ai (qaR hk) (Co hw [0] 10 (Ai hs tI))))) (by kernel_rfl)) r
abbrev qx1 (c:Ck) (n:Int) (p:Pt) (z:Int):Prop:=Fn 39 1 [qaC 0 c.s,.pv (qag p.a p.b),.pv (qad c.tn c.td)] [(0,0,qao c.s)] (.pv (.tuple #[qad n z,.bool true])) 0 []
theorem qub {c:Ck} {p:Pt} {j k:Nat} {n z:Int} (hk:c.l[k]?=some p) (hin:0≤(k:Int)∧(k:Int)<(c.l.length:Int)) (hlt:decide ((k:Int)<(c.l.length:Int))=true) (hw:qx1 c n p z) (hj:decide ((j:Int)≥(c.d.length:Int))=true):Rl 8 8 31 0 133 9 (qsM j k) (qca 8 c) (.ret) ([(2,.pv (iV 8))]) ([]):=
 RunsL.stop [] 300 [.t true,.r (ptV p),Cf hw [0],.k,.t true] (fun h=>by cases h)
  (qab (Ai hlt (Ai hin (Ai (qaR hk) (Co hw [0] 10 (Ai hj tI))))) (by kernel_rfl))
theorem qvQ {c:Ck} {p q:Pt} {j k:Nat} {n z:Int} (hk:c.l[k]?=some p) (hin:0≤(k:Int)∧(k:Int)<(c.l.length:Int)) (hlt:decide ((k:Int)<(c.l.length:Int))=true) (hq:c.d[j]?=some q) (hiq:0≤(j:Int)∧(j:Int)<(c.d.length:Int)) (hw:qx1 c n p z) (hj:decide ((j:Int)≥(c.d.length:Int))=false) (hne:(q.id !=p.id)=true):Rl 8 8 31 0 133 9 (qsM j k) (qca 8 c) (.ret) ([(2,.pv (iV 8))]) ([]):=
 RunsL.stop [] 300 [.t true,.r (ptV p),Cf hw [0],.k,.t false,.r (iV q.id),.t true] (fun h=>by cases h)
  (qab (Ai hlt (Ai hin (Ai (qaR hk) (Co hw [0] 10 (Ai hj (Ai hiq (Ai (qiU hq) (Ai hne tI)))))))) (by kernel_rfl))
theorem qq5 {c:Ck} {p q:Pt} {j k:Nat} {n z e:Int} {y:Ev} (hk:c.l[k]?=some p) (hin:0≤(k:Int)∧(k:Int)<(c.l.length:Int)) (hlt:decide ((k:Int)<(c.l.length:Int))=true) (hq:c.d[j]?=some q) (hiq:0≤(j:Int)∧(j:Int)<(c.d.length:Int)) (hw:qx1 c n p z) (hj:decide ((j:Int)≥(c.d.length:Int))=false) (hne:(q.id !=p.id)=false) (hf:Fn 78 5 [agA c.u c.b c.fr c.ev c.wh,.pv (qaK q.a q.b)] (qCZ c) (.pv (.tuple #[qac y,iV (e)])) 0 []) (he:(e !=0)=true):Rl 8 8 31 0 133 9 (qsM j k) (qca 8 c) (.ret) ([(2,.pv (iV 8))]) ([]):=
 RunsL.stop [] 300 [.t true,.r (ptV p),Cf hw [0],.k,.t false,.r (iV q.id),.t false,.r (qaK q.a q.b),Cf hf [2,3,4,5,6],.t true] (fun h=>by cases h)
  (qab (Ai hlt (Ai hin (Ai (qaR hk) (Co hw [0] 10 (Ai hj (Ai hiq (Ai (qiU hq) (Ai hne (Ai hiq (Ai (qdt hq) (Co hf [2,3,4,5,6] 11 (Ai he tI)))))))))))) (by kernel_rfl))
abbrev qva (c:Ck) (q:Pt) (y:Ev):Prop:=Fn 78 5 [agA c.u c.b c.fr c.ev c.wh,.pv (qaK q.a q.b)] (qCZ c) (.pv (.tuple #[qac y,iV (0)])) 0 []
theorem qn5 {c:Ck} {p q:Pt} {j k:Nat} {n z:Int} {y:Ev} (hk:c.l[k]?=some p) (hin:0≤(k:Int)∧(k:Int)<(c.l.length:Int)) (hlt:decide ((k:Int)<(c.l.length:Int))=true) (hq:c.d[j]?=some q) (hiq:0≤(j:Int)∧(j:Int)<(c.d.length:Int)) (hw:qx1 c n p z) (hj:decide ((j:Int)≥(c.d.length:Int))=false) (hne:(q.id !=p.id)=false) (hf:qva c q y) (hk2:(y.k !=p.id)=true):Rl 8 8 31 0 133 9 (qsM j k) (qca 8 c) (.ret) ([(2,.pv (iV 8))]) ([]):=
 RunsL.stop [] 300 [.t true,.r (ptV p),Cf hw [0],.k,.t false,.r (iV q.id),.t false,.r (qaK q.a q.b),Cf hf [2,3,4,5,6],.k,.t true] (fun h=>by cases h)
  (qab (Ai hlt (Ai hin (Ai (qaR hk) (Co hw [0] 10 (Ai hj (Ai hiq (Ai (qiU hq) (Ai hne (Ai hiq (Ai (qdt hq) (Co hf [2,3,4,5,6] 11 (Ai hk2 tI)))))))))))) (by kernel_rfl))
theorem qpL {c:Ck} {p q:Pt} {j k:Nat} {n z:Int} {y:Ev} (hk:c.l[k]?=some p) (hin:0≤(k:Int)∧(k:Int)<(c.l.length:Int)) (hlt:decide ((k:Int)<(c.l.length:Int))=true) (hq:c.d[j]?=some q) (hiq:0≤(j:Int)∧(j:Int)<(c.d.length:Int)) (hw:qx1 c n p z) (hj:decide ((j:Int)≥(c.d.length:Int))=false) (hne:(q.id !=p.id)=false) (hf:qva c q y) (hk2:(y.k !=p.id)=false) (ht2:(!(y.n==n&&(y.d==z&&true)))=true):Rl 8 8 31 0 133 9 (qsM j k) (qca 8 c) (.ret) ([(2,.pv (iV 8))]) ([]):=
 RunsL.stop [] 300 [.t true,.r (ptV p),Cf hw [0],.k,.t false,.r (iV q.id),.t false,.r (qaK q.a q.b),Cf hf [2,3,4,5,6],.k,.t false,.t true] (fun h=>by cases h)
  (qab (Ai hlt (Ai hin (Ai (qaR hk) (Co hw [0] 10 (Ai hj (Ai hiq (Ai (qiU hq) (Ai hne (Ai hiq (Ai (qdt hq) (Co hf [2,3,4,5,6] 11 (Ai hk2 (Ai ht2 tI))))))))))))) (by kernel_rfl))
theorem qrr {c:Ck} {p q:Pt} {j k:Nat} {n z:Int} {y:Ev} (hk:c.l[k]?=some p) (hin:0≤(k:Int)∧(k:Int)<(c.l.length:Int)) (hlt:decide ((k:Int)<(c.l.length:Int))=true) (hq:c.d[j]?=some q) (hiq:0≤(j:Int)∧(j:Int)<(c.d.length:Int)) (hw:qx1 c n p z) (hj:decide ((j:Int)≥(c.d.length:Int))=false) (hne:(q.id !=p.id)=false) (hf:qva c q y) (hk2:(y.k !=p.id)=false) (ht2:(!(y.n==n&&(y.d==z&&true)))=false) (hs2:iV (IntKind.i64.wrap ((j:Int)+1))=iV (((j+1:Nat):Int))) (hs:iV (IntKind.i64.wrap ((k:Int)+1))=iV (((k+1:Nat):Int))) {e:Exit} {tm2:TmL} {hp2:HpL}
 (r:Rl 8 8 31 0 133 9 ([(1,.pp 8 0),(3,.pv (iV ((j+1:Nat):Int))),(4,.pv (iV ((k+1:Nat):Int)))]) (qca 8 c) e tm2 hp2):Rl 8 8 31 0 133 9 (qsM j k) (qca 8 c) e tm2 hp2:=
 RunsL.next [] 300 [.t true,.r (ptV p),Cf hw [0],.k,.t false,.r (iV q.id),.t false,.r (qaK q.a q.b),Cf hf [2,3,4,5,6],.k,.t false,.t false,Re hs2,Re hs]
  (qab (Ai hlt (Ai hin (Ai (qaR hk) (Co hw [0] 10 (Ai hj (Ai hiq (Ai (qiU hq) (Ai hne (Ai hiq (Ai (qdt hq) (Co hf [2,3,4,5,6] 11 (Ai hk2 (Ai ht2 (Ai hs2 (Ai hs tI))))))))))))))) (by kernel_rfl)) r
theorem qxo {c:Ck} {j k:Nat} (hge:decide ((k:Int)<(c.l.length:Int))=false):Rl 8 8 31 0 133 9 (qsM j k) (qca 8 c) (.exit 0) ([(1,.pp 8 0),(3,.pv (iV (j:Int)))]) (qca 8 c):=
 RunsL.stop [] 300 [.t false] (fun h=>by cases h)
  (qab (Ai hge tI) (by kernel_rfl))
theorem qvy {c:Ck} (h1:qrp c) (h2:qsT c) (h3:qu4 c) (h4:qx0 c) (h5:qzO c) (h6:((c.wh.length:Int) !=200)=false) (h7:((c.ev.length:Int) !=(c.d.length:Int))=false) (r0:Rl 8 8 31 0 133 9 ([(1,.pp 8 0),(3,.pv (iV ((0:Nat):Int))),(4,.pv (iV ((0:Nat):Int)))]) (qca 8 c) (.ret) ([(2,.pv (iV 8))]) ([])) :
 Fn 31 8 [qap c] (qas c) (.pv (iV (8))) 0 []:=
 qaa 300 [] [Rf h1,.k,Cf h2 [0],.k,Cf h3 [1],.k,Cf h4 [1,0],.k,Cf h5 [2,3,4,5,6],.k,.t false,.t false,Lf r0]
  tI (Ai h1 (Co h2 [0] 9 (Co h3 [1] 9 (Co h4 [1,0] 9 (Co h5 [2,3,4,5,6] 9 (Ai h6 (Ai h7 (Lo r0 [] tI)))))))) (by kernel_rfl)
abbrev qGp (c:Ck) (j:Nat):Prop:=Rl 8 8 31 0 133 9 ([(1,.pp 8 0),(3,.pv (iV ((0:Nat):Int))),(4,.pv (iV ((0:Nat):Int)))]) (qca 8 c) (.exit 0) ([(1,.pp 8 0),(3,.pv (iV (j:Int)))]) (qca 8 c)
theorem qr3 {c:Ck} {j:Nat} (h1:qrp c) (h2:qsT c) (h3:qu4 c) (h4:qx0 c) (h5:qzO c) (h6:((c.wh.length:Int) !=200)=false) (h7:((c.ev.length:Int) !=(c.d.length:Int))=false) (r0:qGp c j) (hd:((j:Int) !=(c.d.length:Int))=true) :
 Fn 31 8 [qap c] (qas c) (.pv (iV (8))) 0 []:=
 qaa 300 [] [Rf h1,.k,Cf h2 [0],.k,Cf h3 [1],.k,Cf h4 [1,0],.k,Cf h5 [2,3,4,5,6],.k,.t false,.t false,Lf r0,.t true]
  tI (Ai h1 (Co h2 [0] 9 (Co h3 [1] 9 (Co h4 [1,0] 9 (Co h5 [2,3,4,5,6] 9 (Ai h6 (Ai h7 (Lo r0 [] (Ai hd tI))))))))) (by kernel_rfl)
theorem qzb {c:Ck} {j:Nat} (h1:qrp c) (h2:qsT c) (h3:qu4 c) (h4:qx0 c) (h5:qzO c) (h6:((c.wh.length:Int) !=200)=false) (h7:((c.ev.length:Int) !=(c.d.length:Int))=false) (r0:qGp c j) (hd:((j:Int) !=(c.d.length:Int))=false) :
 Fn 31 8 [qap c] (qas c) (.pv (iV (0))) 0 []:=
 qaa 300 [] [Rf h1,.k,Cf h2 [0],.k,Cf h3 [1],.k,Cf h4 [1,0],.k,Cf h5 [2,3,4,5,6],.k,.t false,.t false,Lf r0,.t false]
  tI (Ai h1 (Co h2 [0] 9 (Co h3 [1] 9 (Co h4 [1,0] 9 (Co h5 [2,3,4,5,6] 9 (Ai h6 (Ai h7 (Lo r0 [] (Ai hd tI))))))))) (by kernel_rfl)
end Go.Proofs.YtkjaanhddkkodaaGreat

namespace Go.Proofs.YtkjaanhddkkodaaGreat
set_option maxRecDepth 100000
open Go.RowKit
theorem qFD (c:Ck):SV.ag [.pv (iV c.tn),.pv (iV c.td),.ls 10 c.s.length,.pv (iV c.x),.ls 11 c.l.length,.ls 12 c.u.length,.ls 13 c.b.length,.ls 14 c.fr.length,.ls 15 c.ev.length,.ls 16 c.wh.length,.ls 18 (0+c.d.length)]=(qfG c).ren (qaP [(8,10),(9,11),(10,12),(11,13),(12,14),(13,15),(14,16),(15,18)]):=by rw[Nat.zero_add];rfl
theorem qn6 (p:Pt):(!(p.id==p.id&&((p.a==p.a&&(p.b==p.b&&true))&&true)))=false:=by simp
theorem qmy (a b:Int):(!(a==a&&(b==b&&true)))=false:=by simp
theorem qqa {c:Ck} (hf:Fn 32 1 [qaC 0 c.s] [(0,0,qao c.s)] (.ag [.ls 1 c.s.length]) 1 [(1,0,qao c.s)]) (hs:Fn 53 1 [qaM 0 c.x c.l] [(0,0,qan c.l)] (.ag [.pv (iV c.x),.ls 1 c.l.length]) 1 [(1,0,qan c.l)]) (ha:Fn 54 5 [agA c.u c.b c.fr c.ev c.wh] [(0,0,zrI c.u),(1,0,zrB c.b),(2,0,zrI c.fr),(3,0,qar c.ev),(4,0,zrI c.wh)] (.ag [.ls 5 c.u.length,.ls 6 c.b.length,.ls 7 c.fr.length,.ls 8 c.ev.length,.ls 9 c.wh.length]) 5 [(5,0,zrI c.u),(6,0,zrB c.b),(7,0,zrI c.fr),(8,0,qar c.ev),(9,0,zrI c.wh)]) (hn:0+c.d.length≤1000000) :
 Fn 14 8 [qap c] (qas c) (qfG c) 8 (qbT c):=
 qaJ 300 [(8,10),(9,11),(10,12),(11,13),(12,14),(13,15),(14,16),(15,18)] [.md,Cf hf [0],Cf hs [1],Cf ha [2,3,4,5,6]]
  (qFD c) (Ai (Eq.refl (some (qao c.s))) (Ai (Eq.refl (some (qan c.l))) (Ai (Eq.refl (some (zrI c.u))) (Ai (Eq.refl (some (zrB c.b))) (Ai (Eq.refl (some (zrI c.fr))) (Ai (Eq.refl (some (qar c.ev))) (Ai (Eq.refl (some (zrI c.wh))) (Ai (qi9 54 3 c.d.length (qbr c.d)) tI)))))))) (Co hf [0] 10 (Co hs [1] 11 (Co ha [2,3,4,5,6] 12 (Ai hn tI)))) (by kernel_rfl)
abbrev qDe (c:Ck):HpL:=[(16,10,.ls 7 c.d.length),(17,10,.ls 15 c.d.length),(7,0,qaX c.d),(15,0,qaX c.d)]
theorem qro {c:Ck} {p:Pt} {k:Nat} (hk:c.d[k]?=some p) (hin:0≤(k:Int)∧(k:Int)<(c.d.length:Int)) (hlt:decide ((k:Int)<(c.d.length:Int))=true) (hs:iV (IntKind.i64.wrap ((k:Int)+1))=iV (((k+1:Nat):Int))) {e:Exit} {tm2:TmL} {hp2:HpL}
 (r:Rl 16 16 23 0 62 18 ([(2,.pp 16 0),(3,.pp 17 0),(5,.pv (iV ((k+1:Nat):Int)))]) (qDe c) e tm2 hp2):Rl 16 16 23 0 62 18 ([(2,.pp 16 0),(3,.pp 17 0),(5,.pv (iV (k:Int)))]) (qDe c) e tm2 hp2:=
 RunsL.next [] 300 [.t true,.r (ptV p),.r (ptV p),.t false,Re hs]
  (qab (Ai hlt (Ai hin (Ai (qaR hk) (Ai hin (Ai (qaR hk) (Ai (qn6 p) (Ai hs tI))))))) (by kernel_rfl)) r
theorem qul {c:Ck} {k:Nat} (hge:decide ((k:Int)<(c.d.length:Int))=false):Rl 16 16 23 0 62 18 ([(2,.pp 16 0),(3,.pp 17 0),(5,.pv (iV (k:Int)))]) (qDe c) (.exit 0) ([]) ([]):=
 RunsL.stop [] 300 [.t false] (fun h=>by cases h)
  (qab (Ai hge tI) (by kernel_rfl))
theorem quG {c:Ck} (hf:Fn 36 2 [qaC 0 c.s,qaC 1 c.s] [(0,0,qao c.s),(1,0,qao c.s)] (.pv (.bool true)) 0 []) (hs:Fn 43 2 [qaM 0 c.x c.l,qaM 1 c.x c.l] [(0,0,qan c.l),(1,0,qan c.l)] (.pv (.bool true)) 0 []) (ha:Fn 67 10 [agA c.u c.b c.fr c.ev c.wh,.ag [.ls 5 c.u.length,.ls 6 c.b.length,.ls 7 c.fr.length,.ls 8 c.ev.length,.ls 9 c.wh.length]] [(0,0,zrI c.u),(1,0,zrB c.b),(2,0,zrI c.fr),(3,0,qar c.ev),(4,0,zrI c.wh),(5,0,zrI c.u),(6,0,zrB c.b),(7,0,zrI c.fr),(8,0,qar c.ev),(9,0,zrI c.wh)] (.pv (.bool true)) 0 []) (r0:Rl 16 16 23 0 62 18 ([(2,.pp 16 0),(3,.pp 17 0),(5,.pv (iV ((0:Nat):Int)))]) (qDe c) (.exit 0) ([]) ([])) :
 Fn 23 16 [qap c,qfG c] [(0,0,qao c.s),(1,0,qan c.l),(2,0,zrI c.u),(3,0,zrB c.b),(4,0,zrI c.fr),(5,0,qar c.ev),(6,0,zrI c.wh),(7,0,qaX c.d),(8,0,qao c.s),(9,0,qan c.l),(10,0,zrI c.u),(11,0,zrB c.b),(12,0,zrI c.fr),(13,0,qar c.ev),(14,0,zrI c.wh),(15,0,qaX c.d)] (.pv (.bool true)) 0 []:=
 qaa 300 [] [.t false,Cf hf [0,8],.k,Cf hs [1,9],.k,Cf ha [2,3,4,5,6,10,11,12,13,14],.k,.t false,Lf r0]
  tI (Ai (qmy c.tn c.td) (Co hf [0,8] 18 (Co hs [1,9] 18 (Co ha [2,3,4,5,6,10,11,12,13,14] 18 (Ai (qtR (c.d.length:Int)) (Lo r0 [] tI)))))) (by kernel_rfl)
theorem qun :
 Pure Tryz.prog 23 #[qbz,qbz] (.bool true):=
 qaf (args:=[qbz,qbz]) 600 [.k,.k,.k,.k,.k,.k,.k,.k,.k,.k,.k,.k,.k,.k,.k,.k,.k,.k,.k,.k,.k,.k,.k,.k,.k,.k,.k,.k,.k,.k,.k,.k,.k,.k,.k,.k,.k,.k,.k,.k,.k,.k,.k,.k,.k,.k,.k,.k,.k,.k,.k,.k,.k,.k,.k,.k,.k,.k,.k,.k]
  (Ai rfl tI) (by kernel_rfl)
abbrev qzh (o:Ck) (s:List Pt):HpL:=[(1,0,qao s),(2,0,zrI o.u),(3,0,zrB o.b),(4,0,zrI o.fr),(5,0,zrI o.wh),(6,0,qar [])]
theorem qpn {o:Ck} {s:List Pt} {tn td:Int} (hf:Fn 32 1 [qaC 0 s] [(0,0,qao s)] (.ag [.ls 1 s.length]) 1 [(1,0,qao s)]) (hb:Fn 15 0 [.pv (iV (200))] [] (.ag [.ls 0 o.u.length,.ls 1 o.b.length,.ls 2 o.fr.length,.ls 4 0,.ls 3 o.wh.length]) 5 [(0,0,zrI o.u),(1,0,zrB o.b),(2,0,zrI o.fr),(3,0,zrI o.wh),(4,0,qar [])]) :
 Fn 70 1 [qaC 0 s,.pv (qad tn td)] [(0,0,qao s)] (.ag [.pv (iV tn),.pv (iV td),.ls 1 s.length,.pv (iV 0),.pv (.slice none 0 0),.ls 2 o.u.length,.ls 3 o.b.length,.ls 4 o.fr.length,.ls 6 0,.ls 5 o.wh.length,.pv (.slice none 0 0)]) 6 (qzh o s):=
 qaa 300 [(1,4),(2,5),(3,6),(4,7),(5,8),(6,9)] [.md,Cf hf [0],Cf hb []]
  (qaF (qaP [(1,4),(2,5),(3,6),(4,7),(5,8),(6,9)]) (qzh o s)) (Co hf [0] 4 (Co hb [] 5 tI)) (by kernel_rfl)
theorem qwf {s:List Pt} {tn td e:Int} (ht:Fn 69 1 [qaC 0 s,.pv (qad tn td)] [(0,0,qao s)] (.pv (iV (e))) 0 []) (he:(e !=0)=true) :
 Fn 27 1 [qaC 0 s,.pv (qad tn td)] [(0,0,qao s)] (.pv (.tuple #[qbz,iV e])) 0 []:=
 qaa 300 [] [Cf ht [0],.t true]
  tI (Co ht [0] 4 (Ai he tI)) (by kernel_rfl)
theorem qAa {o:Ck} {s:List Pt} {tn td:Int} (ht:Fn 69 1 [qaC 0 s,.pv (qad tn td)] [(0,0,qao s)] (.pv (iV (0))) 0 []) (hb:Fn 70 1 [qaC 0 s,.pv (qad tn td)] [(0,0,qao s)] (.ag [.pv (iV tn),.pv (iV td),.ls 1 s.length,.pv (iV 0),.pv (.slice none 0 0),.ls 2 o.u.length,.ls 3 o.b.length,.ls 4 o.fr.length,.ls 6 0,.ls 5 o.wh.length,.pv (.slice none 0 0)]) 6 (qzh o s)) :
 Fn 27 1 [qaC 0 s,.pv (qad tn td)] [(0,0,qao s)] (.tu [.ag [.pv (iV tn),.pv (iV td),.ls 1 s.length,.pv (iV 0),.pv (.slice none 0 0),.ls 2 o.u.length,.ls 3 o.b.length,.ls 4 o.fr.length,.ls 6 0,.ls 5 o.wh.length,.pv (.slice none 0 0)],.one (.pv (iV 0))]) 6 (qzh o s):=
 qaa 300 [(1,4),(2,5),(3,6),(4,7),(5,8),(6,9)] [Cf ht [0],.k,Cf hb [0]]
  (qaF (qaP [(1,4),(2,5),(3,6),(4,7),(5,8),(6,9)]) (qzh o s)) (Co ht [0] 4 (Co hb [0] 4 tI)) (by kernel_rfl)
end Go.Proofs.YtkjaanhddkkodaaGreat

namespace Go.Proofs.YtkjaanhddkkodaaGreat
set_option maxRecDepth 100000
open Go.RowKit
theorem qns (m:List Pt) (p:Pt):some (SV.row 54 3 (m.length+1) (qbr m++[iV p.id,iV p.a,iV p.b]))=some (qaX (m++[p])):=by rw[qgA,qaX,List.length_append];rfl
theorem qDD (c o:Ck) (x2 n hi hw:Int) (l2:List Pt):SV.tu [.ag [.pv (iV c.tn),.pv (iV c.td),.ls 13 c.s.length,.pv (iV x2),.ls 11 l2.length,.ls 23 o.u.length,.ls 24 o.b.length,.ls 25 o.fr.length,.ls 26 o.ev.length,.ls 27 o.wh.length,.ls 31 (c.d.length+1)],.one (.pv (iV n)),.one (.pv (iV 0))]=(SV.tu [qeY { c with x:=x2,l:=l2,u:=o.u,b:=o.b,fr:=o.fr,ev:=o.ev,wh:=o.wh,d:=c.d++[(Pt.mk n hi hw)] },.one (.pv (iV n)),.one (.pv (iV 0))]).ren (qaP [(8,13),(9,11),(10,23),(11,24),(12,25),(13,26),(14,27),(15,31)]):=by
 rw[show c.d.length+1=(c.d++[(Pt.mk n hi hw)]).length by rw[List.length_append];rfl];rfl
theorem qgW (l:List Pt) (k:Nat) (h:k+1≤l.length):some (SV.row 54 3 (0+k+(l.length-(k+1))) ([]++((qbr l).drop (0*3)).take (k*3)++((qbr l).drop ((0+(k+1))*3)).take ((l.length-(k+1))*3)))=some (qaX (l.take k++l.drop (k+1))):=by
 have h1:=qiP l k
 have h2:=qjG l (k+1)
 rw[Nat.zero_add] at h1
 rw[h1,h2,qaX,qgQ l k h,qb5,List.nil_append]
theorem qFq (c o:Ck) (k:Nat) (l2:List Pt) (h:k+1≤c.d.length):SV.ag [.pv (iV c.tn),.pv (iV c.td),.ls 10 c.s.length,.pv (iV c.x),.ls 19 l2.length,.ls 20 o.u.length,.ls 21 o.b.length,.ls 22 o.fr.length,.ls 23 o.ev.length,.ls 24 o.wh.length,.ls 27 (0+k+(c.d.length-(k+1)))]=(qfG { c with l:=l2,u:=o.u,b:=o.b,fr:=o.fr,ev:=o.ev,wh:=o.wh,d:=(c.d.take k++c.d.drop (k+1)) }).ren (qaP [(8,10),(9,19),(10,20),(11,21),(12,22),(13,23),(14,24),(15,27)]):=by
 rw[show 0+k+(c.d.length-(k+1))=(c.d.take k++c.d.drop (k+1)).length by simp;omega];rfl
theorem qmz {c:Ck} {a b e:Int} (ha:Fn 122 1 [qaM 0 c.x c.l,.pv (qag a b)] [(0,0,qan c.l)] (.pv (.tuple #[.agg #[iV 0,.slice none 0 0],iV 0,iV e])) 0 []) (he:(e !=0)=true) :
 Fn 73 8 [qap c,.pv (qag a b)] (qas c) (.pv (.tuple #[qbz,iV 0,iV e])) 0 []:=
 qaa 300 [] [Cf ha [1],.t true]
  tI (Co ha [1] 11 (Ai he tI)) (by kernel_rfl)
abbrev qD0 (a:Int) (b:Int) (c:Ck) (l2:List Pt) (n:Int) (x2:Int):Prop:=Fn 122 1 [qaM 0 c.x c.l,.pv (qag a b)] [(0,0,qan c.l)] (.tu [.ag [.pv (iV x2),.ls 1 l2.length],.one (.pv (iV n)),.one (.pv (iV 0))]) 1 [(1,0,qan l2)]
abbrev qBc (c:Ck):Prop:=Fn 14 8 [qap c] (qas c) (qfG c) 8 (qbT c)
theorem qzs {c:Ck} {n a b tn td:Int} {x2:Int} {l2:List Pt} (ha:qD0 a b c l2 n x2) (htw:qBc c) (hwn:Fn 39 1 [qaC 0 c.s,.pv (qag a b),.pv (qad c.tn c.td)] [(0,0,qao c.s)] (.pv (.tuple #[qad tn td,.bool false])) 0 []) :
 Fn 73 8 [qap c,.pv (qag a b)] (qas c) (.tu [qeY { c with x:=x2,l:=l2 },.one (.pv (iV n)),.one (.pv (iV 0))]) 8 (qbT ({ c with x:=x2,l:=l2 }:Ck)):=
 qaa 300 [(8,13),(9,11),(10,15),(11,16),(12,17),(13,18),(14,19),(15,20)] [Cf ha [1],.k,Cf htw [0,1,2,3,4,5,6,7],Cf hwn [0],.k]
  (qaF (qaP [(8,13),(9,11),(10,15),(11,16),(12,17),(13,18),(14,19),(15,20)]) (qbT ({ c with x:=x2,l:=l2 }:Ck))) (Co ha [1] 11 (Co htw [0,1,2,3,4,5,6,7] 13 (Co hwn [0] 22 tI))) (by kernel_rfl)
theorem qpJ {c:Ck} {n a b tn td:Int} {x2:Int} {l2:List Pt} (ha:qD0 a b c l2 n x2) (htw:qBc c) (hwn:Fn 39 1 [qaC 0 c.s,.pv (qag a b),.pv (qad c.tn c.td)] [(0,0,qao c.s)] (.pv (.tuple #[qad tn td,.bool true])) 0 []) (ho:Fn 123 3 [.ag [.ls 0 c.u.length,.ls 1 c.b.length,.ls 2 c.fr.length]] [(0,0,zrI c.u),(1,0,zrB c.b),(2,0,zrI c.fr)] (.pv (.bool false)) 0 []) :
 Fn 73 8 [qap c,.pv (qag a b)] (qas c) (.pv (.tuple #[qbz,iV 0,iV 18])) 0 []:=
 qaa 300 [] [Cf ha [1],.k,Cf htw [0,1,2,3,4,5,6,7],Cf hwn [0],.k,Cf ho [2,3,4],.k]
  tI (Co ha [1] 11 (Co htw [0,1,2,3,4,5,6,7] 13 (Co hwn [0] 22 (Co ho [2,3,4] 23 tI)))) (by kernel_rfl)
theorem qvz {c o:Ck} {n a b tn td:Int} {hi hw x2:Int} {l2:List Pt} (ha:qD0 a b c l2 n x2) (htw:qBc c) (hwn:Fn 39 1 [qaC 0 c.s,.pv (qag a b),.pv (qad c.tn c.td)] [(0,0,qao c.s)] (.pv (.tuple #[qad tn td,.bool true])) 0 []) (ho:Fn 123 3 [.ag [.ls 0 c.u.length,.ls 1 c.b.length,.ls 2 c.fr.length]] [(0,0,zrI c.u),(1,0,zrB c.b),(2,0,zrI c.fr)] (.pv (.bool true)) 0 []) (hp:Fn 124 5 [agA c.u c.b c.fr c.ev c.wh,.pv (qad tn td),.pv (iV (n))] [(0,0,zrI c.u),(1,0,zrB c.b),(2,0,zrI c.fr),(3,0,qar c.ev),(4,0,zrI c.wh)] (.tu [.ag [.ls 5 o.u.length,.ls 6 o.b.length,.ls 7 o.fr.length,.ls 8 o.ev.length,.ls 9 o.wh.length],.one (.pv (qaK hi hw))]) 5 [(5,0,zrI o.u),(6,0,zrB o.b),(7,0,zrI o.fr),(8,0,qar o.ev),(9,0,zrI o.wh)]) (hd:c.d.length+1≤1000000) :
 Fn 73 8 [qap c,.pv (qag a b)] (qas c) (.tu [qeY { c with x:=x2,l:=l2,u:=o.u,b:=o.b,fr:=o.fr,ev:=o.ev,wh:=o.wh,d:=c.d++[(Pt.mk n hi hw)] },.one (.pv (iV n)),.one (.pv (iV 0))]) 8 (qbT ({ c with x:=x2,l:=l2,u:=o.u,b:=o.b,fr:=o.fr,ev:=o.ev,wh:=o.wh,d:=c.d++[(Pt.mk n hi hw)] }:Ck)):=
 qaJ 300 [(8,13),(9,11),(10,23),(11,24),(12,25),(13,26),(14,27),(15,31)] [Cf ha [1],.k,Cf htw [0,1,2,3,4,5,6,7],Cf hwn [0],.k,Cf ho [2,3,4],.k,Cf hp [2,3,4,5,6]]
  (qDD c o x2 n hi hw l2) (Ai (Eq.refl (some (qao c.s))) (Ai (Eq.refl (some (qan l2))) (Ai (Eq.refl (some (zrI o.u))) (Ai (Eq.refl (some (zrB o.b))) (Ai (Eq.refl (some (zrI o.fr))) (Ai (Eq.refl (some (qar o.ev))) (Ai (Eq.refl (some (zrI o.wh))) (Ai (qns c.d (Pt.mk n hi hw)) tI)))))))) (Co ha [1] 11 (Co htw [0,1,2,3,4,5,6,7] 13 (Co hwn [0] 22 (Co ho [2,3,4] 23 (Co hp [2,3,4,5,6] 23 (Ai hd tI)))))) (by kernel_rfl)
theorem qvN {c:Ck} {a b:Int} (hc:Fn 31 8 [qap c] (qas c) (.pv (iV (8))) 0 []) :
 Fn 28 8 [qap c,.pv (qag a b)] (qas c) (.pv (.tuple #[qbz,iV 0,iV 8])) 0 []:=
 qaa 300 [] [Cf hc [0,1,2,3,4,5,6,7],.k]
  tI (Co hc [0,1,2,3,4,5,6,7] 11 tI) (by kernel_rfl)
abbrev qwn (c:Ck):Prop:=Fn 31 8 [qap c] (qas c) (.pv (iV (0))) 0 []
theorem quc {c:Ck} {a b:Int} (hc:qwn c) (hv:Pure Tryz.prog 71 #[qag a b] (.bool false)) :
 Fn 28 8 [qap c,.pv (qag a b)] (qas c) (.pv (.tuple #[qbz,iV 0,iV 8])) 0 []:=
 qaa 300 [] [Cf hc [0,1,2,3,4,5,6,7],.k,Rf hv,.k]
  tI (Co hc [0,1,2,3,4,5,6,7] 11 (Ai hv tI)) (by kernel_rfl)
abbrev qCX (a:Int) (c:Ck) (z:Int):Prop:=Fn 72 1 [qaC 0 c.s,.pv (iV (a))] [(0,0,qao c.s)] (.pv (iV (z))) 0 []
theorem qyH {c:Ck} {a b z:Int} (hc:qwn c) (hv:Pure Tryz.prog 71 #[qag a b] (.bool true)) (h1:qCX a c z) (hz:decide (z<0)=true) :
 Fn 28 8 [qap c,.pv (qag a b)] (qas c) (.pv (.tuple #[qbz,iV 0,iV 6])) 0 []:=
 qaa 300 [] [Cf hc [0,1,2,3,4,5,6,7],.k,Rf hv,.k,Cf h1 [0],.t true]
  tI (Co hc [0,1,2,3,4,5,6,7] 11 (Ai hv (Co h1 [0] 11 (Ai hz tI)))) (by kernel_rfl)
abbrev qEP (b:Int) (c:Ck) (m2:Int):Prop:=Fn 72 1 [qaC 0 c.s,.pv (iV (b))] [(0,0,qao c.s)] (.pv (iV (m2))) 0 []
theorem qyw {c:Ck} {a b z m2:Int} (hc:qwn c) (hv:Pure Tryz.prog 71 #[qag a b] (.bool true)) (h1:qCX a c z) (hz:decide (z<0)=false) (h2:qEP b c m2) (hm:decide (m2<0)=true) :
 Fn 28 8 [qap c,.pv (qag a b)] (qas c) (.pv (.tuple #[qbz,iV 0,iV 6])) 0 []:=
 qaa 300 [] [Cf hc [0,1,2,3,4,5,6,7],.k,Rf hv,.k,Cf h1 [0],.t false,Cf h2 [0],.t true]
  tI (Co hc [0,1,2,3,4,5,6,7] 11 (Ai hv (Co h1 [0] 11 (Ai hz (Co h2 [0] 11 (Ai hm tI)))))) (by kernel_rfl)
theorem qxD {c:Ck} {n a b z m2 e:Int} (hc:qwn c) (hv:Pure Tryz.prog 71 #[qag a b] (.bool true)) (h1:qCX a c z) (hz:decide (z<0)=false) (h2:qEP b c m2) (hm:decide (m2<0)=false) (had:Fn 73 8 [qap c,.pv (qag a b)] (qas c) (.pv (.tuple #[qbz,iV n,iV e])) 0 []) :
 Fn 28 8 [qap c,.pv (qag a b)] (qas c) (.pv (.tuple #[qbz,iV n,iV e])) 0 []:=
 qaa 300 [] [Cf hc [0,1,2,3,4,5,6,7],.k,Rf hv,.k,Cf h1 [0],.t false,Cf h2 [0],.t false,Cf had [0,1,2,3,4,5,6,7]]
  tI (Co hc [0,1,2,3,4,5,6,7] 11 (Ai hv (Co h1 [0] 11 (Ai hz (Co h2 [0] 11 (Ai hm (Co had [0,1,2,3,4,5,6,7] 11 tI))))))) (by kernel_rfl)
theorem qAx {c o:Ck} {n a b z m2:Int} (hc:qwn c) (hv:Pure Tryz.prog 71 #[qag a b] (.bool true)) (h1:qCX a c z) (hz:decide (z<0)=false) (h2:qEP b c m2) (hm:decide (m2<0)=false) (had:Fn 73 8 [qap c,.pv (qag a b)] (qas c) (.tu [qeY o,.one (.pv (iV n)),.one (.pv (iV 0))]) 8 (qbT o)) :
 Fn 28 8 [qap c,.pv (qag a b)] (qas c) (.tu [qeY o,.one (.pv (iV n)),.one (.pv (iV 0))]) 8 (qbT o):=
 qaa 300 [(8,11),(9,12),(10,13),(11,14),(12,15),(13,16),(14,17),(15,18)] [Cf hc [0,1,2,3,4,5,6,7],.k,Rf hv,.k,Cf h1 [0],.t false,Cf h2 [0],.t false,Cf had [0,1,2,3,4,5,6,7]]
  (qaF (qaP [(8,11),(9,12),(10,13),(11,14),(12,15),(13,16),(14,17),(15,18)]) (qbT o)) (Co hc [0,1,2,3,4,5,6,7] 11 (Ai hv (Co h1 [0] 11 (Ai hz (Co h2 [0] 11 (Ai hm (Co had [0,1,2,3,4,5,6,7] 11 tI))))))) (by kernel_rfl)
theorem qyu {c:Ck} {n:Int} {l2:List Pt} (htw:qBc c) (hwo:Fn 125 1 [qaM 0 c.x c.l,.pv (iV (n))] [(0,0,qan c.l)] (.ag [.pv (iV c.x),.ls 1 l2.length]) 1 [(1,0,qan l2)]) (hd:Fn 46 8 [qap c,.pv (iV (n))] (qas c) (.pv (iV (-1))) 0 []) :
 Fn 74 8 [qap c,.pv (iV (n))] (qas c) (qfG { c with l:=l2 }) 8 (qbT ({ c with l:=l2 }:Ck)):=
 qaa 300 [(8,10),(9,19),(10,12),(11,13),(12,14),(13,15),(14,16),(15,17)] [Cf htw [0,1,2,3,4,5,6,7],Cf hwo [1],Cf hd [0,1,2,3,4,5,6,7],.k]
  (qaF (qaP [(8,10),(9,19),(10,12),(11,13),(12,14),(13,15),(14,16),(15,17)]) (qbT ({ c with l:=l2 }:Ck))) (Co htw [0,1,2,3,4,5,6,7] 10 (Co hwo [1] 19 (Co hd [0,1,2,3,4,5,6,7] 20 tI))) (by kernel_rfl)
theorem qw2 {c o:Ck} {q:Pt} {k:Nat} {n:Int} {l2:List Pt} (htw:qBc c) (hwo:Fn 125 1 [qaM 0 c.x c.l,.pv (iV (n))] [(0,0,qan c.l)] (.ag [.pv (iV c.x),.ls 1 l2.length]) 1 [(1,0,qan l2)]) (hd:Fn 46 8 [qap c,.pv (iV (n))] (qas c) (.pv (iV (k:Int))) 0 []) (h0:decide ((k:Int)≥0)=true) (hq:c.d[k]?=some q) (hin:0≤(k:Int)∧(k:Int)<(c.d.length:Int)) (hr:Fn 126 5 [agA c.u c.b c.fr c.ev c.wh,.pv (qaK q.a q.b)] [(0,0,zrI c.u),(1,0,zrB c.b),(2,0,zrI c.fr),(3,0,qar c.ev),(4,0,zrI c.wh)] (.ag [.ls 5 o.u.length,.ls 6 o.b.length,.ls 7 o.fr.length,.ls 8 o.ev.length,.ls 9 o.wh.length]) 5 [(5,0,zrI o.u),(6,0,zrB o.b),(7,0,zrI o.fr),(8,0,qar o.ev),(9,0,zrI o.wh)]) (hkl:k≤c.d.length) (hkl1:k+1≤c.d.length) (a1:0+k≤1000000) (a2:0+k+(c.d.length-(k+1))≤1000000) (hk1:iV (IntKind.i64.wrap ((k:Int)+1))=iV (((k+1:Nat):Int))) :
 Fn 74 8 [qap c,.pv (iV (n))] (qas c) (qfG { c with l:=l2,u:=o.u,b:=o.b,fr:=o.fr,ev:=o.ev,wh:=o.wh,d:=(c.d.take k++c.d.drop (k+1)) }) 8 (qbT ({ c with l:=l2,u:=o.u,b:=o.b,fr:=o.fr,ev:=o.ev,wh:=o.wh,d:=(c.d.take k++c.d.drop (k+1)) }:Ck)):=
 qaJ 300 [(8,10),(9,19),(10,20),(11,21),(12,22),(13,23),(14,24),(15,27)] [Cf htw [0,1,2,3,4,5,6,7],Cf hwo [1],Cf hd [0,1,2,3,4,5,6,7],.t true,.r (qaK q.a q.b),Cf hr [2,3,4,5,6],.md,.k,Re hk1,.k]
  (qFq c o k l2 hkl1) (Ai (Eq.refl (some (qao c.s))) (Ai (Eq.refl (some (qan l2))) (Ai (Eq.refl (some (zrI o.u))) (Ai (Eq.refl (some (zrB o.b))) (Ai (Eq.refl (some (zrI o.fr))) (Ai (Eq.refl (some (qar o.ev))) (Ai (Eq.refl (some (zrI o.wh))) (Ai (qgW c.d k hkl1) tI)))))))) (Co htw [0,1,2,3,4,5,6,7] 10 (Co hwo [1] 19 (Co hd [0,1,2,3,4,5,6,7] 20 (Ai h0 (Ai hin (Ai (qdt hq) (Co hr [2,3,4,5,6] 20 (Ai tI (Ai (Int.natCast_nonneg k) (Ai (Nat.zero_le k) (Ai hkl (Ai a1 (Ai hk1 (Ai (Int.natCast_nonneg (k+1)) (Ai tI (Ai hkl1 (Ai (Nat.le_refl c.d.length) (Ai a2 tI)))))))))))))))))) (by kernel_rfl)
theorem qwc {c:Ck} {n:Int} (hc:Fn 31 8 [qap c] (qas c) (.pv (iV (8))) 0 []) :
 Fn 29 8 [qap c,.pv (iV (n))] (qas c) (.pv (.tuple #[qbz,iV 8])) 0 []:=
 qaa 300 [] [Cf hc [0,1,2,3,4,5,6,7],.k]
  tI (Co hc [0,1,2,3,4,5,6,7] 10 tI) (by kernel_rfl)
theorem qzT {c:Ck} {n z:Int} (hc:qwn c) (ha8:Fn 41 1 [qaM 0 c.x c.l,.pv (iV (n))] [(0,0,qan c.l)] (.pv (iV (z))) 0 []) (hz:decide (z<0)=true) :
 Fn 29 8 [qap c,.pv (iV (n))] (qas c) (.pv (.tuple #[qbz,iV 6])) 0 []:=
 qaa 300 [] [Cf hc [0,1,2,3,4,5,6,7],.k,Cf ha8 [1],.t true]
  tI (Co hc [0,1,2,3,4,5,6,7] 10 (Co ha8 [1] 10 (Ai hz tI))) (by kernel_rfl)
theorem qz9 {c o:Ck} {n z:Int} (hc:qwn c) (ha8:Fn 41 1 [qaM 0 c.x c.l,.pv (iV (n))] [(0,0,qan c.l)] (.pv (iV (z))) 0 []) (hz:decide (z<0)=false) (hg:Fn 74 8 [qap c,.pv (iV (n))] (qas c) (qfG o) 8 (qbT o)) :
 Fn 29 8 [qap c,.pv (iV (n))] (qas c) (.tu [qeY o,.one (.pv (iV 0))]) 8 (qbT o):=
 qaa 300 [(8,10),(9,11),(10,12),(11,13),(12,14),(13,15),(14,16),(15,17)] [Cf hc [0,1,2,3,4,5,6,7],.k,Cf ha8 [1],.t false,Cf hg [0,1,2,3,4,5,6,7]]
  (qaF (qaP [(8,10),(9,11),(10,12),(11,13),(12,14),(13,15),(14,16),(15,17)]) (qbT o)) (Co hc [0,1,2,3,4,5,6,7] 10 (Co ha8 [1] 10 (Ai hz (Co hg [0,1,2,3,4,5,6,7] 10 tI)))) (by kernel_rfl)
end Go.Proofs.YtkjaanhddkkodaaGreat
