/-
  Joined: Kn, Zf, Kr. Conditions: none.
-/
import Derived.Test.YtkjaanhddkkodaaGreatZj
import Derived.Test.YtkjaanhddkkodaaGreatW24
import Derived.Test.YtkjaanhddkkodaaGreatW18
import Derived.Test.YtkjaanhddkkodaaGreatZe
import Derived.Test.YtkjaanhddkkodaaGreatW27
namespace Go.Proofs.YtkjaanhddkkodaaGreat
set_option maxRecDepth 100000
open Go.ChangeShapes Go.WideShapes Go.ChangeAt Go.RowKit Go.Joins Go.Deep
theorem qws:Tryz.prog.cellsOf 94=3:=by kernel_rfl
theorem qvJ:Tryz.prog.cellsOf 48=2:=by kernel_rfl
theorem qu1:Tryz.prog.cellsOf 27=1:=by kernel_rfl
theorem qjE:Tryz.prog.cellsOf 29=2:=by kernel_rfl
section
variable {H:Type} {enc:TypeId×Value→H} {W:World} {base:Nat} {spare:Nat→Bool} {held:Bool}
theorem qmA {fuel:Nat} {cs:List Value} {x:DataW H×List MemPlace} (h:DataW.trod enc Tryz.prog W base spare held fuel 27 cs=some x) :
 ∃ (u:Value) (l:List Pt),cs=[u]∧Rd W 3 u l.length (qbm l):=by
 rcases open_slice Tryz.underlying27 h with ⟨rfl,_⟩ | ⟨a,len,cap,m,n,D,Pl,rfl,_,hlc,_,hm,_,hi⟩
 ·exact⟨_,[],rfl,⟨rfl,none,0,rfl,Nat.le_refl _,fun j v hv=>by simp[qbm] at hv⟩⟩
 have hlm:len≤m:=by rw[hm];split<;>omega
 have each:∀ i,i<len→∃ p:Pt,W.cell? (a.add (i*3))=some (iV p.id)∧W.cell? (a.add (i*3+1))=some (iV p.a)∧W.cell? (a.add (i*3+2))=some (iV p.b):=by
  intro i hil
  obtain⟨cs',hc,ht⟩:=hi i (by omega)
  rw[qws] at hc
  obtain⟨y0,y1,n',_,hlen,t0,t1⟩:=trod_struct2 Tryz.underlying94 ht
  obtain⟨z0,z1,n2,_,hlen2,s0,s1⟩:=trod_struct2 Tryz.underlying48 t1
  obtain⟨_,hcl,hat⟩:=World.cells?_some hc
  match cs',hcl with
  | [c0,c1,c2],_=>
   obtain⟨pi,e0,_,w0⟩:=DataW.trod_int Tryz.underlying3 t0
   obtain⟨pa,e1,_,w1⟩:=DataW.trod_int Tryz.underlying3 s0
   obtain⟨pb,e2,_,w2⟩:=DataW.trod_int Tryz.underlying3 s1
   simp[qAT,qvJ] at e0 e1 e2
   refine⟨⟨pi,pa,pb⟩,?_,?_,?_⟩
   ·have:=hat 0 (by omega);rw[add_add] at this;simpa [e0] using this
   ·have:=hat 1 (by omega);rw[add_add] at this;simpa [e1] using this
   ·have:=hat 2 (by omega);rw[add_add] at this;simpa [e2] using this
 haveI:Inhabited Pt:=⟨⟨0,0,0⟩⟩
 obtain⟨f,hf⟩:=choose_lt (α:=Pt) each
 refine⟨_,(List.range len).map f,rfl,⟨qba _,some a,cap,by simp,by simpa using hlc,fun j v hv=>?_⟩⟩
 obtain⟨hk,he⟩:=ql5 f len j v hv
 obtain⟨c0,c1,c2⟩:=hf _ hk
 have hcell:W.cell? (a.add j)=some v:=by
  have h3:j%3=0∨j%3=1∨j%3=2:=by omega
  have e:j=j/3*3+j%3:=by omega
  rcases h3 with e3 | e3 | e3<;>rw[e3] at he e<;>rw[e]<;>simp at he<;>subst he
  ·exact c0
  ·exact c1
  ·exact c2
 obtain⟨b,off,spot⟩:=a
 have hs:spot=none:=by simpa [Addr.add] using World.cell?_spot (hf 0 (by omega)).1
 subst hs
 exact⟨b,off,rfl,by rw[← Go.WideShapes.add_plain];exact hcell⟩
end
end Go.Proofs.YtkjaanhddkkodaaGreat

namespace Go.Proofs.YtkjaanhddkkodaaGreat
set_option maxRecDepth 100000
open Go.RowKit
abbrev qij (b:List Bool) (fr:List Int) (u:List Int):HpL:=[(0,0,zrI u),(1,0,zrB b),(2,0,zrI fr)]
theorem qFD {u fr:List Int} {b:List Bool} (gu:decide ((u.length:Int)>210)=true) :
 Fn 121 3 [.ag [.ls 0 u.length,.ls 1 b.length,.ls 2 fr.length]] (qij b fr u) (.pv (.bool true)) 0 []:=
 Fz [] [.t true]
  tI (Ai gu tI)
theorem qFU {u fr:List Int} {b:List Bool} (gu:decide ((u.length:Int)>210)=false) (gb:decide ((b.length:Int)>210)=true) :
 Fn 121 3 [.ag [.ls 0 u.length,.ls 1 b.length,.ls 2 fr.length]] (qij b fr u) (.pv (.bool true)) 0 []:=
 Fz [] [.t false,.t true]
  tI (Ai gu (Ai gb tI))
theorem qFB {u fr:List Int} {b:List Bool} (gu:decide ((u.length:Int)>210)=false) (gb:decide ((b.length:Int)>210)=false) (gf:decide ((fr.length:Int)>210)=true) :
 Fn 121 3 [.ag [.ls 0 u.length,.ls 1 b.length,.ls 2 fr.length]] (qij b fr u) (.pv (.bool true)) 0 []:=
 Fz [] [.t false,.t false,.t true]
  tI (Ai gu (Ai gb (Ai gf tI)))
theorem qCm {u fr:List Int} {b:List Bool} (gu:decide ((u.length:Int)>210)=false) (gb:decide ((b.length:Int)>210)=false) (gf:decide ((fr.length:Int)>210)=false) :
 Fn 121 3 [.ag [.ls 0 u.length,.ls 1 b.length,.ls 2 fr.length]] (qij b fr u) (.pv (.bool false)) 0 []:=
 Fz [] [.t false,.t false,.t false]
  tI (Ai gu (Ai gb (Ai gf tI)))
theorem qDJ {u fr:List Int} {b:List Bool} (h1:decide ((u.length:Int)<1)=true) :
 Fn 129 3 [.ag [.ls 0 u.length,.ls 1 b.length,.ls 2 fr.length]] (qij b fr u) (.pv (iV (8))) 0 []:=
 Fz [] [.t true]
  tI (Ai h1 tI)
theorem qDj {u fr:List Int} {b:List Bool} (h1:decide ((u.length:Int)<1)=false) (h2:decide ((u.length:Int)>200)=true) :
 Fn 129 3 [.ag [.ls 0 u.length,.ls 1 b.length,.ls 2 fr.length]] (qij b fr u) (.pv (iV (8))) 0 []:=
 Fz [] [.t false,.t true]
  tI (Ai h1 (Ai h2 tI))
theorem qCg {u fr:List Int} {b:List Bool} (h1:decide ((u.length:Int)<1)=false) (h2:decide ((u.length:Int)>200)=false) (h3:(!((b.length:Int)==(u.length:Int)))=true) :
 Fn 129 3 [.ag [.ls 0 u.length,.ls 1 b.length,.ls 2 fr.length]] (qij b fr u) (.pv (iV (8))) 0 []:=
 Fz [] [.t false,.t false,.t true]
  tI (Ai h1 (Ai h2 (Ai h3 tI)))
theorem qEc {u fr:List Int} {b:List Bool} (h1:decide ((u.length:Int)<1)=false) (h2:decide ((u.length:Int)>200)=false) (h3:(!((b.length:Int)==(u.length:Int)))=false) (h4:decide ((fr.length:Int)>(u.length:Int))=true) :
 Fn 129 3 [.ag [.ls 0 u.length,.ls 1 b.length,.ls 2 fr.length]] (qij b fr u) (.pv (iV (8))) 0 []:=
 Fz [] [.t false,.t false,.t false,.t true]
  tI (Ai h1 (Ai h2 (Ai h3 (Ai h4 tI))))
abbrev qgS (b:List Bool) (fr:List Int) (g:List Bool) (u:List Int):HpL:=[(3,0,.ls 0 u.length),(3,1,.ls 1 b.length),(3,2,.ls 2 fr.length),(0,0,zrI u),(1,0,zrB b),(2,0,zrI fr),(4,0,.row 4 1 u.length (zbV g))]
abbrev qze (k:Nat) (u:List Int):TmL:=[(1,.pp 3 0),(3,.pv (iV (u.length:Int))),(4,.ls 4 u.length),(5,.pv (iV (k:Int)))]
theorem qvg {u fr:List Int} {b g:List Bool} {x:Int} {k:Nat} (hf:fr[k]?=some x) (hif:0≤(k:Int)∧(k:Int)<(fr.length:Int)) (hlt:decide ((k:Int)<(fr.length:Int))=true) (hx0:decide (x<0)=true):Rl 3 3 129 0 117 5 (qze k u) (qgS b fr g u) (.ret) ([(2,.pv (iV 8))]) ([]):=
 RunsL.stop [] 300 [.t true,.r (iV x),.t true] (fun h=>by cases h)
  (Ro (Ai hlt (Ai hif (Ai (qbb hf) (Ai hx0 tI)))))
theorem qti {u fr:List Int} {b g:List Bool} {x:Int} {k:Nat} (hf:fr[k]?=some x) (hif:0≤(k:Int)∧(k:Int)<(fr.length:Int)) (hlt:decide ((k:Int)<(fr.length:Int))=true) (hx0:decide (x<0)=false) (hx1:decide (x≥(u.length:Int))=true):Rl 3 3 129 0 117 5 (qze k u) (qgS b fr g u) (.ret) ([(2,.pv (iV 8))]) ([]):=
 RunsL.stop [] 300 [.t true,.r (iV x),.t false,.r (iV x),.t true] (fun h=>by cases h)
  (Ro (Ai hlt (Ai hif (Ai (qbb hf) (Ai hx0 (Ai hif (Ai (qbb hf) (Ai hx1 tI))))))))
theorem qmX {u fr:List Int} {b g:List Bool} {x:Int} {k:Nat} (hf:fr[k]?=some x) (hif:0≤(k:Int)∧(k:Int)<(fr.length:Int)) (hlt:decide ((k:Int)<(fr.length:Int))=true) (hx0:decide (x<0)=false) (hx1:decide (x≥(u.length:Int))=false) (hix:0≤x∧x<(u.length:Int)) (hg:g[x.toNat]?=some true):Rl 3 3 129 0 117 5 (qze k u) (qgS b fr g u) (.ret) ([(2,.pv (iV 8))]) ([]):=
 RunsL.stop [] 300 [.t true,.r (iV x),.t false,.r (iV x),.t false,.r (iV x),.r (.bool true)] (fun h=>by cases h)
  (Ro (Ai hlt (Ai hif (Ai (qbb hf) (Ai hx0 (Ai hif (Ai (qbb hf) (Ai hx1 (Ai hif (Ai (qbb hf) (Ai hix (Ai (qfr hg) tI))))))))))))
theorem qki {u fr:List Int} {b g:List Bool} {x:Int} {k:Nat} (hf:fr[k]?=some x) (hif:0≤(k:Int)∧(k:Int)<(fr.length:Int)) (hlt:decide ((k:Int)<(fr.length:Int))=true) (hx0:decide (x<0)=false) (hx1:decide (x≥(u.length:Int))=false) (hix:0≤x∧x<(u.length:Int)) (hg:g[x.toNat]?=some false) (hgl:x.toNat<g.length) (hs:iV (IntKind.i64.wrap ((k:Int)+1))=iV (((k+1:Nat):Int))) {e:Exit} {tm2:TmL} {hp2:HpL}
 (r:Rl 3 3 129 0 117 5 ([(1,.pp 3 0),(3,.pv (iV (u.length:Int))),(4,.ls 4 u.length),(5,.pv (iV ((k+1:Nat):Int)))]) ([(3,0,.ls 0 u.length),(3,1,.ls 1 b.length),(3,2,.ls 2 fr.length),(0,0,zrI u),(1,0,zrB b),(2,0,zrI fr),(4,0,.row 4 1 u.length (zbV (g.set x.toNat true)))]) e tm2 hp2):Rl 3 3 129 0 117 5 (qze k u) (qgS b fr g u) e tm2 hp2:=
 RunsL.next [] 300 [.t true,.r (iV x),.t false,.r (iV x),.t false,.r (iV x),.r (.bool false),.r (iV x),.w (zbV (g.set x.toNat true)),Re hs]
  (Ro (Ai hlt (Ai hif (Ai (qbb hf) (Ai hx0 (Ai hif (Ai (qbb hf) (Ai hx1 (Ai hif (Ai (qbb hf) (Ai hix (Ai (qfr hg) (Ai hif (Ai (qbb hf) (Ai hix (Ai (qwZ g x.toNat true hgl) (Ai (qfI g x.toNat hgl) (Ai hs tI)))))))))))))))))) r
theorem qwb {u fr:List Int} {b g:List Bool} {k:Nat} (hge:decide ((k:Int)<(fr.length:Int))=false):Rl 3 3 129 0 117 5 (qze k u) (qgS b fr g u) (.exit 0) ([(1,.pp 3 0),(3,.pv (iV (u.length:Int))),(4,.ls 4 u.length)]) (qgS b fr g u):=
 RunsL.stop [] 300 [.t false] (fun h=>by cases h)
  (Ro (Ai hge tI))
abbrev qsI (k:Nat) (u:List Int):TmL:=[(1,.pp 3 0),(3,.pv (iV (u.length:Int))),(4,.ls 4 u.length),(6,.pv (iV (k:Int)))]
theorem qtv {u fr:List Int} {b g:List Bool} {y:Int} {k:Nat} (hu:u[k]?=some y) (hiu:0≤(k:Int)∧(k:Int)<(u.length:Int)) (hlt:decide ((k:Int)<(u.length:Int))=true) (hy0:decide (y<0)=true):Rl 3 3 129 1 117 5 (qsI k u) (qgS b fr g u) (.ret) ([(2,.pv (iV 8))]) ([]):=
 RunsL.stop [] 300 [.t true,.r (iV y),.t true] (fun h=>by cases h)
  (Ro (Ai hlt (Ai hiu (Ai (qbb hu) (Ai hy0 tI)))))
theorem qvd {u fr:List Int} {b g:List Bool} {y:Int} {k:Nat} (hu:u[k]?=some y) (hiu:0≤(k:Int)∧(k:Int)<(u.length:Int)) (hlt:decide ((k:Int)<(u.length:Int))=true) (hy0:decide (y<0)=false) (hy1:decide (y>1000000)=true):Rl 3 3 129 1 117 5 (qsI k u) (qgS b fr g u) (.ret) ([(2,.pv (iV 8))]) ([]):=
 RunsL.stop [] 300 [.t true,.r (iV y),.t false,.r (iV y),.t true] (fun h=>by cases h)
  (Ro (Ai hlt (Ai hiu (Ai (qbb hu) (Ai hy0 (Ai hiu (Ai (qbb hu) (Ai hy1 tI))))))))
theorem qji {u fr:List Int} {b g:List Bool} {y:Int} {k:Nat} (hu:u[k]?=some y) (hiu:0≤(k:Int)∧(k:Int)<(u.length:Int)) (hlt:decide ((k:Int)<(u.length:Int))=true) (hy0:decide (y<0)=false) (hy1:decide (y>1000000)=false) (hb:b[k]?=some true) (hib:0≤(k:Int)∧(k:Int)<(b.length:Int)) (hg:g[k]?=some true):Rl 3 3 129 1 117 5 (qsI k u) (qgS b fr g u) (.ret) ([(2,.pv (iV 8))]) ([]):=
 RunsL.stop [] 300 [.t true,.r (iV y),.t false,.r (iV y),.t false,.r (.bool true),.r (.bool true),.k] (fun h=>by cases h)
  (Ro (Ai hlt (Ai hiu (Ai (qbb hu) (Ai hy0 (Ai hiu (Ai (qbb hu) (Ai hy1 (Ai hib (Ai (qcN hb) (Ai hiu (Ai (qcN hg) tI))))))))))))
theorem qh5 {u fr:List Int} {b g:List Bool} {y:Int} {k:Nat} (hu:u[k]?=some y) (hiu:0≤(k:Int)∧(k:Int)<(u.length:Int)) (hlt:decide ((k:Int)<(u.length:Int))=true) (hy0:decide (y<0)=false) (hy1:decide (y>1000000)=false) (hb:b[k]?=some false) (hib:0≤(k:Int)∧(k:Int)<(b.length:Int)) (hg:g[k]?=some false):Rl 3 3 129 1 117 5 (qsI k u) (qgS b fr g u) (.ret) ([(2,.pv (iV 8))]) ([]):=
 RunsL.stop [] 300 [.t true,.r (iV y),.t false,.r (iV y),.t false,.r (.bool false),.r (.bool false),.k] (fun h=>by cases h)
  (Ro (Ai hlt (Ai hiu (Ai (qbb hu) (Ai hy0 (Ai hiu (Ai (qbb hu) (Ai hy1 (Ai hib (Ai (qcN hb) (Ai hiu (Ai (qcN hg) tI))))))))))))
theorem qfW {u fr:List Int} {b g:List Bool} {y:Int} {k:Nat} (hu:u[k]?=some y) (hiu:0≤(k:Int)∧(k:Int)<(u.length:Int)) (hlt:decide ((k:Int)<(u.length:Int))=true) (hy0:decide (y<0)=false) (hy1:decide (y>1000000)=false) (hb:b[k]?=some false) (hib:0≤(k:Int)∧(k:Int)<(b.length:Int)) (hg:g[k]?=some true) (hs:iV (IntKind.i64.wrap ((k:Int)+1))=iV (((k+1:Nat):Int))) {e:Exit} {tm2:TmL} {hp2:HpL}
 (r:Rl 3 3 129 1 117 5 ([(1,.pp 3 0),(3,.pv (iV (u.length:Int))),(4,.ls 4 u.length),(6,.pv (iV ((k+1:Nat):Int)))]) (qgS b fr g u) e tm2 hp2):Rl 3 3 129 1 117 5 (qsI k u) (qgS b fr g u) e tm2 hp2:=
 RunsL.next [] 300 [.t true,.r (iV y),.t false,.r (iV y),.t false,.r (.bool false),.r (.bool true),.k,.r (.bool false),Re hs]
  (Ro (Ai hlt (Ai hiu (Ai (qbb hu) (Ai hy0 (Ai hiu (Ai (qbb hu) (Ai hy1 (Ai hib (Ai (qcN hb) (Ai hiu (Ai (qcN hg) (Ai hib (Ai (qcN hb) (Ai hs tI))))))))))))))) r
theorem qua {u fr:List Int} {b g:List Bool} {y:Int} {k:Nat} (hu:u[k]?=some y) (hiu:0≤(k:Int)∧(k:Int)<(u.length:Int)) (hlt:decide ((k:Int)<(u.length:Int))=true) (hy0:decide (y<0)=false) (hy1:decide (y>1000000)=false) (hb:b[k]?=some true) (hib:0≤(k:Int)∧(k:Int)<(b.length:Int)) (hg:g[k]?=some false) (hy2:decide (y<1)=true):Rl 3 3 129 1 117 5 (qsI k u) (qgS b fr g u) (.ret) ([(2,.pv (iV 8))]) ([]):=
 RunsL.stop [] 300 [.t true,.r (iV y),.t false,.r (iV y),.t false,.r (.bool true),.r (.bool false),.k,.r (.bool true),.r (iV y),.t true] (fun h=>by cases h)
  (Ro (Ai hlt (Ai hiu (Ai (qbb hu) (Ai hy0 (Ai hiu (Ai (qbb hu) (Ai hy1 (Ai hib (Ai (qcN hb) (Ai hiu (Ai (qcN hg) (Ai hib (Ai (qcN hb) (Ai hiu (Ai (qbb hu) (Ai hy2 tI)))))))))))))))))
theorem qfP {u fr:List Int} {b g:List Bool} {y:Int} {k:Nat} (hu:u[k]?=some y) (hiu:0≤(k:Int)∧(k:Int)<(u.length:Int)) (hlt:decide ((k:Int)<(u.length:Int))=true) (hy0:decide (y<0)=false) (hy1:decide (y>1000000)=false) (hb:b[k]?=some true) (hib:0≤(k:Int)∧(k:Int)<(b.length:Int)) (hg:g[k]?=some false) (hy2:decide (y<1)=false) (hs:iV (IntKind.i64.wrap ((k:Int)+1))=iV (((k+1:Nat):Int))) {e:Exit} {tm2:TmL} {hp2:HpL}
 (r:Rl 3 3 129 1 117 5 ([(1,.pp 3 0),(3,.pv (iV (u.length:Int))),(4,.ls 4 u.length),(6,.pv (iV ((k+1:Nat):Int)))]) (qgS b fr g u) e tm2 hp2):Rl 3 3 129 1 117 5 (qsI k u) (qgS b fr g u) e tm2 hp2:=
 RunsL.next [] 300 [.t true,.r (iV y),.t false,.r (iV y),.t false,.r (.bool true),.r (.bool false),.k,.r (.bool true),.r (iV y),.t false,Re hs]
  (Ro (Ai hlt (Ai hiu (Ai (qbb hu) (Ai hy0 (Ai hiu (Ai (qbb hu) (Ai hy1 (Ai hib (Ai (qcN hb) (Ai hiu (Ai (qcN hg) (Ai hib (Ai (qcN hb) (Ai hiu (Ai (qbb hu) (Ai hy2 (Ai hs tI)))))))))))))))))) r
theorem qtV {u fr:List Int} {b g:List Bool} {k:Nat} (hge:decide ((k:Int)<(u.length:Int))=false):Rl 3 3 129 1 117 5 (qsI k u) (qgS b fr g u) (.exit 2) ([]) ([]):=
 RunsL.stop [] 300 [.t false] (fun h=>by cases h)
  (Ro (Ai hge tI))
theorem qCe {u fr:List Int} {b:List Bool} (h1:decide ((u.length:Int)<1)=false) (h2:decide ((u.length:Int)>200)=false) (h3:(!((b.length:Int)==(u.length:Int)))=false) (h4:decide ((fr.length:Int)>(u.length:Int))=false) (n0:0≤(u.length:Int)) (n1:(u.length:Int)≤1000000) (r0:Rl 3 3 129 0 117 5 ([(1,.pp 3 0),(3,.pv (iV (u.length:Int))),(4,.ls 4 u.length),(5,.pv (iV ((0:Nat):Int)))]) ([(3,0,.ls 0 u.length),(3,1,.ls 1 b.length),(3,2,.ls 2 fr.length),(0,0,zrI u),(1,0,zrB b),(2,0,zrI fr),(4,0,.row 4 1 u.length (zbV (List.replicate u.length false)))]) (.ret) ([(2,.pv (iV 8))]) ([])) :
 Fn 129 3 [.ag [.ls 0 u.length,.ls 1 b.length,.ls 2 fr.length]] (qij b fr u) (.pv (iV (8))) 0 []:=
 Fz [] [.t false,.t false,.t false,.t false,Lf r0]
  tI (Ai h1 (Ai h2 (Ai h3 (Ai h4 (Ai n0 (Ai (Eq.refl (u.length:Int)) (Ai n1 (Ai (Lt r0 []) (Ai (Ai (Er (SV.ls 0 u.length)) (Ai (Er (SV.ls 1 b.length)) (Ai (Er (SV.ls 2 fr.length)) (Ai (Er (zrI u)) (Ai (Er (zrB b)) (Ai (Er (zrI fr)) (Ai (qcy u.length) tI))))))) (Ai r0 tI))))))))))
abbrev qFu (b:List Bool) (fr:List Int) (g:List Bool) (u:List Int):Prop:=Rl 3 3 129 0 117 5 ([(1,.pp 3 0),(3,.pv (iV (u.length:Int))),(4,.ls 4 u.length),(5,.pv (iV ((0:Nat):Int)))]) ([(3,0,.ls 0 u.length),(3,1,.ls 1 b.length),(3,2,.ls 2 fr.length),(0,0,zrI u),(1,0,zrB b),(2,0,zrI fr),(4,0,.row 4 1 u.length (zbV (List.replicate u.length false)))]) (.exit 0) ([(1,.pp 3 0),(3,.pv (iV (u.length:Int))),(4,.ls 4 u.length)]) (qgS b fr g u)
theorem qDY {u fr:List Int} {b g:List Bool} (h1:decide ((u.length:Int)<1)=false) (h2:decide ((u.length:Int)>200)=false) (h3:(!((b.length:Int)==(u.length:Int)))=false) (h4:decide ((fr.length:Int)>(u.length:Int))=false) (n0:0≤(u.length:Int)) (n1:(u.length:Int)≤1000000) (r0:qFu b fr g u) (r1:Rl 3 3 129 1 117 5 ([(1,.pp 3 0),(3,.pv (iV (u.length:Int))),(4,.ls 4 u.length),(6,.pv (iV ((0:Nat):Int)))]) (qgS b fr g u) (.ret) ([(2,.pv (iV 8))]) ([])) :
 Fn 129 3 [.ag [.ls 0 u.length,.ls 1 b.length,.ls 2 fr.length]] (qij b fr u) (.pv (iV (8))) 0 []:=
 Fz [] [.t false,.t false,.t false,.t false,Lf r0,Lf r1]
  tI (Ai h1 (Ai h2 (Ai h3 (Ai h4 (Ai n0 (Ai (Eq.refl (u.length:Int)) (Ai n1 (Ai (Lt r0 []) (Ai (Ai (Er (SV.ls 0 u.length)) (Ai (Er (SV.ls 1 b.length)) (Ai (Er (SV.ls 2 fr.length)) (Ai (Er (zrI u)) (Ai (Er (zrB b)) (Ai (Er (zrI fr)) (Ai (qcy u.length) tI))))))) (Ai r0 (Lo r1 [] tI)))))))))))
theorem quY {u fr:List Int} {b g:List Bool} (h1:decide ((u.length:Int)<1)=false) (h2:decide ((u.length:Int)>200)=false) (h3:(!((b.length:Int)==(u.length:Int)))=false) (h4:decide ((fr.length:Int)>(u.length:Int))=false) (n0:0≤(u.length:Int)) (n1:(u.length:Int)≤1000000) (r0:qFu b fr g u) (r1:Rl 3 3 129 1 117 5 ([(1,.pp 3 0),(3,.pv (iV (u.length:Int))),(4,.ls 4 u.length),(6,.pv (iV ((0:Nat):Int)))]) (qgS b fr g u) (.exit 2) ([]) ([])) :
 Fn 129 3 [.ag [.ls 0 u.length,.ls 1 b.length,.ls 2 fr.length]] (qij b fr u) (.pv (iV (0))) 0 []:=
 Fz [] [.t false,.t false,.t false,.t false,Lf r0,Lf r1]
  tI (Ai h1 (Ai h2 (Ai h3 (Ai h4 (Ai n0 (Ai (Eq.refl (u.length:Int)) (Ai n1 (Ai (Lt r0 []) (Ai (Ai (Er (SV.ls 0 u.length)) (Ai (Er (SV.ls 1 b.length)) (Ai (Er (SV.ls 2 fr.length)) (Ai (Er (zrI u)) (Ai (Er (zrB b)) (Ai (Er (zrI fr)) (Ai (qcy u.length) tI))))))) (Ai r0 (Lo r1 [] tI)))))))))))
theorem qu3 {u fr:List Int} {b:List Bool} {hi hw:Int} (h0:decide (hi≥0)=false) :
 Fn 132 3 [.ag [.ls 0 u.length,.ls 1 b.length,.ls 2 fr.length],.pv (.agg #[iV hi,iV hw])] (qij b fr u) (.pv (.bool false)) 0 []:=
 Fz [] [.t false]
  tI (Ai h0 tI)
theorem qvv {u fr:List Int} {b:List Bool} {hi hw:Int} (h0:decide (hi≥0)=true) (h1:decide (hi<(u.length:Int))=false) :
 Fn 132 3 [.ag [.ls 0 u.length,.ls 1 b.length,.ls 2 fr.length],.pv (.agg #[iV hi,iV hw])] (qij b fr u) (.pv (.bool false)) 0 []:=
 Fz [] [.t true,.t false]
  tI (Ai h0 (Ai h1 tI))
theorem qoY {u fr:List Int} {b:List Bool} {hi hw:Int} (h0:decide (hi≥0)=true) (h1:decide (hi<(u.length:Int))=true) (hib:0≤hi∧hi<(b.length:Int)) (hb:b[hi.toNat]?=some false) :
 Fn 132 3 [.ag [.ls 0 u.length,.ls 1 b.length,.ls 2 fr.length],.pv (.agg #[iV hi,iV hw])] (qij b fr u) (.pv (.bool false)) 0 []:=
 Fz [] [.t true,.t true,.r (.bool false)]
  tI (Ai h0 (Ai h1 (Ai hib (Ai (qfr hb) tI))))
theorem qqx {u fr:List Int} {b:List Bool} {y hi hw:Int} (h0:decide (hi≥0)=true) (h1:decide (hi<(u.length:Int))=true) (hib:0≤hi∧hi<(b.length:Int)) (hb:b[hi.toNat]?=some true) (hiu:0≤hi∧hi<(u.length:Int)) (hue:u[hi.toNat]?=some y) (he:(y==hw)=true) :
 Fn 132 3 [.ag [.ls 0 u.length,.ls 1 b.length,.ls 2 fr.length],.pv (.agg #[iV hi,iV hw])] (qij b fr u) (.pv (.bool true)) 0 []:=
 Fz [] [.t true,.t true,.r (.bool true),.r (iV y),.t true]
  tI (Ai h0 (Ai h1 (Ai hib (Ai (qfr hb) (Ai hiu (Ai (qe4 hue) (Ai he tI)))))))
theorem qni {u fr:List Int} {b:List Bool} {y hi hw:Int} (h0:decide (hi≥0)=true) (h1:decide (hi<(u.length:Int))=true) (hib:0≤hi∧hi<(b.length:Int)) (hb:b[hi.toNat]?=some true) (hiu:0≤hi∧hi<(u.length:Int)) (hue:u[hi.toNat]?=some y) (he:(y==hw)=false) :
 Fn 132 3 [.ag [.ls 0 u.length,.ls 1 b.length,.ls 2 fr.length],.pv (.agg #[iV hi,iV hw])] (qij b fr u) (.pv (.bool false)) 0 []:=
 Fz [] [.t true,.t true,.r (.bool true),.r (iV y),.t false]
  tI (Ai h0 (Ai h1 (Ai hib (Ai (qfr hb) (Ai hiu (Ai (qe4 hue) (Ai he tI)))))))
end Go.Proofs.YtkjaanhddkkodaaGreat

namespace Go.Proofs.YtkjaanhddkkodaaGreat
set_option maxRecDepth 100000
open Go.RowKit
theorem qFE {f:FuncId} {y:Int} (h:Fn f 0 [] [] (.pv (.agg #[iV y,.slice none 0 0])) 0 []):Fn f 0 [] [] (.ag [.pv (iV y),.ls 0 0]) 1 [(0,0,qam [])]:=by
 intro w β us hH hd hi
 refine (h w β us hH hd hi).mono fun e w' ⟨v,β',he,hle,hx,hh,hd'⟩=>?_
 cases hx
 have hd0:=hd' 0 (by omega)
 have hle0:β'.le (β'.setG 0 (.slice none 0 0)):=Bl.le_setG hd0.1 hd0.2
 have ho:w'.ownsRow w.heap.size 94 3 (.slice none 0 0) 0 []:=⟨rfl,Or.inl ⟨rfl,rfl⟩⟩
 have look:∀ {b o:Nat} {s t:SV},qaf [(0,0,s)] b o=some t→b=0∧o=0∧t=s:=by
  intro b o s t h
  rw[qak] at h
  split at h
  ·rename_i e;cases h;exact⟨e.1.symm,e.2.symm,rfl⟩
  ·cases h
 refine⟨_,β'.setG 0 (.slice none 0 0),he,Bl.le_trans hle hle0,⟨[iV y,.slice none 0 0],⟨rfl,⟨Bl.setG_same _ _ _,none,0,rfl⟩,tI⟩,rfl⟩,?_,fun b hb=>⟨(hd' b (by omega)).1,by unfold Bl.setG;simp only[if_neg (show b≠0 by omega)];exact (hd' b (by omega)).2⟩⟩
 refine⟨hh.gr,hh.live,hh.inj,hh.new,fun c r hc=>?_,fun c o s hs hsr=>?_,fun c o e es n xs hs=>?_,fun c o e es n xs c' o' e' es' n' xs' u v hs hs' h1 h2 hne=>?_,fun c o xs hs=>?_⟩
 ·have hc':β' c=some r:=hc
  have:c≠0:=fun e=>by subst e;rw[hd0.1] at hc';cases hc'
  show (if c=0 then _ else β'.g c)=none
  rw[if_neg this]
  exact hh.sep c r hc'
 ·obtain⟨_,_,rfl⟩:=look hs;cases hsr
 ·obtain⟨rfl,_,e1⟩:=look hs
  cases e1
  exact⟨_,Bl.setG_same _ _ _,qeY ho,(fun v hv=>by cases hv),fun h=>by omega,fun _=>ho,fun _ c r hc hu=>by cases hu⟩
 ·exact (hne ((look hs).1.trans (look hs').1.symm)).elim
 ·obtain⟨_,_,e1⟩:=look hs;cases e1
theorem qin {f:FuncId} {v:Value} (h:Pure Tryz.prog f #[] v):Fn f 0 [] [] (.pv v) 0 []:=by
 intro w β us hH hd hi
 match us,hi with
 | [],_=>
  refine (h w).mono fun e w' ⟨he,hg⟩=>⟨v,β,he,Bl.le_refl β,rfl,hH.gr_mono hg,hd⟩
theorem qiz {f:FuncId} {v:Value} (h:Fn f 0 [] [] (.pv v) 0 []):Pure Tryz.prog f #[] v:=by
 intro w
 have H0:HRel w 0 Bl.no [] w:=⟨Gr.refl w,fun _ _ e=>(by cases e),fun _ _ _ e=>(by cases e),fun _ _ _ e=>(by cases e),fun _ _ e=>(by cases e),fun _ _ _ e=>(by cases e),fun _ _ _ _ _ _ e=>(by cases e),fun _ _ _ _ _ _ _ _ _ _ _ _ _ _ e=>(by cases e),fun _ _ _ e=>(by cases e)⟩
 refine (h w Bl.no [] H0 (fun _ _=>⟨rfl,rfl⟩) tI).mono fun e w' ⟨u,β',he,_,hx,hh,_⟩=>?_
 cases hx
 exact⟨he,hh.gr⟩
theorem qgF:Fn 52 0 [] [] (.ag [.pv (iV 0),.ls 0 0]) 1 [(0,0,qam [])]:=qFE (qin qFI)
theorem V8.none {x:Int} (h:0≤x∧x≤1000000):V8 x []:=⟨by simp,by simp,fun k p q hp=>by simp at hp,by simp,by simp,h,fun i k p q _ hp=>by simp at hp⟩
theorem qc9 {l:List Pt} {r p:Pt} {k:Nat} (h:(l++[r])[k]?=some p):l[k]?=some p∨(k=l.length∧p=r):=by
 rcases Nat.lt_or_ge k l.length with h1 | h1
 ·rw[List.getElem?_append_left h1] at h;exact Or.inl h
 ·have:=qaj h
  have e:k=l.length:=by simp at this;omega
  subst e
  simp at h
  exact Or.inr ⟨rfl,h.symm⟩
theorem V8.add {x a b:Int} {l:List Pt} (h:V8 x l) (hc:qce a b=true) (hh:qfy l a b=false) (hn:l.length<200) (hx:x<1000000):V8 (x+1) (l++[Pt.mk x a b]) where
 len:=by simp;omega
 ok:=fun p hp=>by
  rcases List.mem_append.1 hp with hp | hp
  ·exact h.ok p hp
  ·simp at hp;subst hp;exact hc
 up:=fun k p q hp hq=>by
  rcases qc9 hq with hq | ⟨e,rfl⟩
  ·rcases qc9 hp with hp | ⟨e,_⟩
   ·exact h.up k p q hp hq
   ·have:=qaj hq;omega
  ·rcases qc9 hp with hp | ⟨e',_⟩
   ·exact h.hi p (List.mem_of_getElem? hp)
   ·omega
 lo:=fun p hp=>by
  rcases List.mem_append.1 hp with hp | hp
  ·exact h.lo p hp
  ·simp at hp;subst hp;exact h.nx.1
 hi:=fun p hp=>by
  rcases List.mem_append.1 hp with hp | hp
  ·have:=h.hi p hp;omega
  ·simp at hp;subst hp;show x<x+1;omega
 nx:=by have:=h.nx;omega
 dis:=fun i k p q hik hp hq=>by
  rcases qc9 hq with hq | ⟨e,rfl⟩
  ·rcases qc9 hp with hp | ⟨e,_⟩
   ·exact h.dis i k p q hik hp hq
   ·have:=qaj hq;omega
  ·rcases qc9 hp with hp | ⟨e',_⟩
   ·intro he
    have:qfy l a b=true:=qdy.2 ⟨p,List.mem_of_getElem? hp,he⟩
    rw[hh] at this;cases this
   ·omega
theorem qgX {l:List Pt} {k i:Nat} {p:Pt} (h:(l.take k++l.drop (k+1))[i]?=some p):∃ j,l[j]?=some p∧j≠k∧(i<k∧j=i∨k≤i∧j=i+1):=by
 rcases Nat.lt_or_ge i (l.take k).length with h1 | h1
 ·rw[List.getElem?_append_left h1,List.getElem?_take] at h
  split at h
  ·rename_i hik
   exact⟨i,h,by omega,Or.inl ⟨hik,rfl⟩⟩
  ·cases h
 ·rw[List.getElem?_append_right h1,List.getElem?_drop] at h
  have hl:=qaj h
  rw[List.length_take] at h1 hl h
  have hk:k≤i:=by omega
  refine⟨i+1,?_,by omega,Or.inr ⟨hk,rfl⟩⟩
  rw[show k+1+(i-min k l.length)=i+1 by omega] at h
  exact h
theorem V8.cut {x:Int} {l:List Pt} (h:V8 x l) (k:Nat):V8 x (l.take k++l.drop (k+1)):=by
 have hm:∀ p∈l.take k++l.drop (k+1),p∈l:=fun p hp=>by
  rcases List.mem_append.1 hp with hp | hp
  ·exact List.mem_of_mem_take hp
  ·exact List.mem_of_mem_drop hp
 refine⟨?_,fun p hp=>h.ok p (hm p hp),fun i p q hp hq=>?_,fun p hp=>h.lo p (hm p hp),fun p hp=>h.hi p (hm p hp),h.nx,fun i j p q hij hp hq=>?_⟩
 ·have:=h.len
  simp;omega
 ·obtain⟨i1,h1,_,c1⟩:=qgX hp
  obtain⟨j1,h2,_,c2⟩:=qgX hq
  exact h.up.mono (by omega) h1 h2
 ·obtain⟨i1,h1,_,c1⟩:=qgX hp
  obtain⟨j1,h2,_,c2⟩:=qgX hq
  exact h.dis i1 j1 p q (by omega) h1 h2
theorem qjP {l:List Pt} {a b:Int} (h:(l.all fun p=>!(p.a==a&&p.b==b))=true):qfy l a b=false:=by
 cases e:qfy l a b
 ·rfl
 ·obtain⟨p,hp,h1,h2⟩:=qdy.1 e
  have:=List.all_eq_true.1 h p hp
  rw[h1,h2] at this
  simp at this
theorem v0:V8 0 []:=V8.none (by omega)
theorem v1:V8 1 [Pt.mk 0 1 2]:=V8.add v0 (by decide) (qjP (by decide)) (by decide) (by decide)
theorem v2:V8 2 [Pt.mk 0 1 2,Pt.mk 1 3 2]:=V8.add v1 (by decide) (qjP (by decide)) (by decide) (by decide)
theorem v3:V8 2 [Pt.mk 1 3 2]:=V8.cut v2 0
abbrev s3:List Pt:=[Pt.mk 1 5 0,Pt.mk 2 6 0,Pt.mk 3 7 0]
end Go.Proofs.YtkjaanhddkkodaaGreat
