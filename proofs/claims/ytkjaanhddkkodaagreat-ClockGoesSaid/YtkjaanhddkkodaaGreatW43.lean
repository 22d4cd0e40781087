/-
  Joined: Lk, Ln, Lt, Lo, Lp. Conditions: none.
-/
import Derived.Test.YtkjaanhddkkodaaGreatW42
import Derived.Test.YtkjaanhddkkodaaGreatW18
import Derived.Test.YtkjaanhddkkodaaGreatW31
namespace Go.Proofs.YtkjaanhddkkodaaGreat
set_option maxRecDepth 100000
open Go.RowKit
abbrev qaT (l:List Pt) (n:Int):List Pt:=l.filter fun p=>decide (p.id≠n)
abbrev qFo (c:Ck) (n:Int) (k j:Nat) (y:Ev):Ck:={ c with l:=qaT c.l n,b:=c.b.set y.i.toNat false,fr:=c.fr++[y.i],ev:=(qaj c.ev c.wh j y).1,wh:=(qaj c.ev c.wh j y).2,d:=c.d.take k++c.d.drop (k+1) }
def qeK (c:Ck) (n:Int) (o:Ck):Prop:=((∀ q∈c.d,q.id≠n)∧o={ c with l:=qaT c.l n })∨
 ∃ (k:Nat) (q:Pt) (j:Nat) (y:Ev),c.d[k]?=some q∧q.id=n∧(∀ (i:Nat) (p:Pt),i<k→c.d[i]?=some p→p.id≠n)∧c.ev[j]?=some y∧y.i=q.a∧y.w=q.b∧o=qFo c n k j y
theorem qua {c:Ck} (V:V9 c) (n:Int):∃ o,qeK c n o:=by
 rcases qaZ (fun k=>∀ q,c.d[k]?=some q→q.id≠n) c.d.length with h | ⟨k,hk,hb,hf⟩
 ·refine⟨_,Or.inl ⟨fun q hq=>?_,rfl⟩⟩
  obtain⟨k,hk⟩:=List.getElem?_of_mem hq
  exact h k (qai hk) q hk
 ·simp only[Classical.not_forall,Classical.not_not] at hb
  obtain⟨q,hq,he⟩:=hb
  obtain⟨p,_,_,y0,hd⟩:=V.f.some q (List.mem_of_getElem? hq)
  obtain⟨j,y,h1,h2,h3,h4⟩:=VA.find V.a hd.lv
  exact⟨_,Or.inr ⟨k,q,j,y,hq,he,fun i p hi hp=>hf i hi p hp,h2,h3,h4,rfl⟩⟩
theorem qmH {c:Ck} (S:S9 c) (V:V9 c) {n:Int} {o:Ck} (h:qeK c n o):Fn 74 8 [qan c,.pv (iV n)] (qaq c) (qdy o) 8 (qbu o):=by
 have hl:=S.l
 have hdl:=S.d
 have hsl:=V.s.len
 have TW:=qig S (by omega)
 have WO:=qxT c.x (l:=c.l) (by omega) n
 rcases h with ⟨h1,rfl⟩ | ⟨k,q,j,y,hq,he,hf,hy,e1,e2,rfl⟩
 ·exact qAO (htw:=TW) (hwo:=WO) (hd:=qdY S h1)
 ·have hk:=qai hq
  have R:=qeI V.a hy
  rw[e1,e2] at R
  have R':Fn 126 5 [agA c.u c.b c.fr c.ev c.wh,.pv (qaG q.a q.b)] (agP c.u c.b c.fr c.ev c.wh) (.ag [.ls 5 c.u.length,.ls 6 (c.b.set y.i.toNat false).length,.ls 7 (c.fr++[y.i]).length,.ls 8 (qaj c.ev c.wh j y).1.length,.ls 9 (qaj c.ev c.wh j y).2.length]) 5 (qfI (qaj c.ev c.wh j y).1 c.u (c.b.set y.i.toNat false) (c.fr++[y.i]) (qaj c.ev c.wh j y).2):=by
   rw[e1]
   exact R
  exact quO (o:=qFo c n k j y) (htw:=TW) (hwo:=WO) (hd:=qeo S hq he hf) (h0:=dt (by omega)) (hq:=hq) (hin:=qao hk) (hr:=R') (hkl:=by omega) (hkl1:=by omega) (a1:=by omega) (a2:=by omega) (hk1:=qar (by omega))
abbrev qAT (f:FuncId) (c:Ck) (n e:Int):Prop:=Fn f 8 [qan c,.pv (iV n)] (qaq c) (.pv (.tuple #[qbv,iV e])) 0 []
abbrev qG9 (f:FuncId) (c:Ck) (n:Int) (o:Ck):Prop:=Fn f 8 [qan c,.pv (iV n)] (qaq c) (.tu [qfW o,.one (.pv (iV 0))]) 8 (qbu o)
noncomputable def reE (c:Ck) (n:Int):Int:=open Classical in if V9 c then (if ∃ p∈c.l,p.id=n then 0 else 6) else 8
def qdF (c:Ck) (y:Ev) (p:Pt) (o:Ck):Prop:=c.ev[0]?=some y∧p∈c.l∧p.id=y.k∧∃ g,qeK c y.k g∧o={ g with tn:=y.n,td:=y.d }
theorem qow {c:Ck} (V:V9 c) {tn td:Int} (h:qjF c tn td=true):∃ y p o,qdF c y p o:=by
 unfold qjF at h
 cases hy:c.ev[0]? with
 | none=>rw[hy] at h;cases h
 | some y=>
  obtain⟨p,hp,_,q,_,hd⟩:=V.ev hy
  obtain⟨g,hg⟩:=qua V y.k
  exact⟨y,p,_,hy,hp,hd.k.symm,g,hg,rfl⟩
abbrev qoS (f:FuncId) (c:Ck) (tn td e:Int):Prop:=Fn f 8 [qan c,.pv (qab tn td)] (qaq c) (.pv (.tuple #[qbv,evZ,qag 0 0,iV e])) 0 []
abbrev qyJ (f:FuncId) (c:Ck) (tn td:Int) (y:Ev) (p:Pt) (o:Ck):Prop:=Fn f 8 [qan c,.pv (qab tn td)] (qaq c) (.tu [qfW o,.one (.pv (qaa y)),.one (.pv (qag p.a p.b)),.one (.pv (iV 0))]) 8 (qbu o)
noncomputable def faE (c:Ck) (tn td:Int):Int:=if qd0 c tn td=0 then (if qjF c tn td=true then 0 else 6) else qd0 c tn td
theorem qfN {c:Ck} {tn td:Int} (h:qd0 c tn td=0):V9 c∧okB tn td=true∧c.tn*td≤tn*c.td:=by
 unfold qd0 at h
 split at h
 ·rename_i h1
  split at h
  ·cases h
  ·exact⟨h1.1,h1.2,by omega⟩
 ·cases h
theorem qf8 {c:Ck} (S:S9 c) {tn td:Int} (htn:I64 tn) (htd:I64 td):(faE c tn td≠0→qoS 33 c tn td (faE c tn td))∧(faE c tn td=0→∀ y p o,qdF c y p o→qyJ 33 c tn td y p o):=by
 have hu:=qgA S htn htd
 have hw:=qgv S htn htd
 by_cases h0:qd0 c tn td=0
 ·obtain⟨V,_,_⟩:=qfN h0
  rw[h0] at hu
  cases hb:qjF c tn td
  ·have e:faE c tn td=6:=by unfold faE;rw[if_pos h0,if_neg (by rw[hb];decide)]
   rw[hb] at hw
   rw[e]
   exact⟨fun _=>qBv (hu:=hu) (hwt:=hw),fun h=>by cases h⟩
  ·have e:faE c tn td=0:=by unfold faE;rw[if_pos h0,if_pos hb]
   rw[hb] at hw
   refine⟨fun h=>(h e).elim,fun _ y p o ho=>?_⟩
   obtain⟨hy,hp,he,g,hg,rfl⟩:=ho
   obtain⟨k,hk⟩:=List.getElem?_of_mem hp
   have hl:=S.l
   have F:=qql (o:=g) (hy:=hy) (hi0:=qao (qai hy)) (hk:=hk) (hin:=qao (qai hk)) (ha8:=qwx c.x (by omega) V.v.up hk he) (hg:=qmH S V hg)
   exact qCm (o:={ g with tn:=y.n,td:=y.d }) (hu:=hu) (hwt:=hw) (hf:=F)
 ·have e:faE c tn td=qd0 c tn td:=by unfold faE;rw[if_neg h0]
  rw[e]
  exact⟨fun _=>qwf (hu:=hu) (he:=by simpa using h0),fun h=>(h0 h).elim⟩
abbrev qnr (f:FuncId) (c:Ck) (tn td e:Int):Prop:=Fn f 8 [qan c,.pv (qab tn td)] (qaq c) (.pv (.tuple #[qbv,iV e])) 0 []
abbrev qBr (f:FuncId) (c:Ck) (tn td:Int):Prop:=Fn f 8 [qan c,.pv (qab tn td)] (qaq c) (.tu [qfW { c with tn:=tn,td:=td },.one (.pv (iV 0))]) 8 (qbu { c with tn:=tn,td:=td })
noncomputable def moE (c:Ck) (tn td:Int):Int:=if qd0 c tn td=0 then (if qjF c tn td=true then 36 else 0) else qd0 c tn td
theorem qhI {c:Ck} (S:S9 c) {tn td:Int} (htn:I64 tn) (htd:I64 td):(moE c tn td≠0→qnr 34 c tn td (moE c tn td))∧(moE c tn td=0→qBr 34 c tn td):=by
 have hu:=qgA S htn htd
 have hw:=qgv S htn htd
 by_cases h0:qd0 c tn td=0
 ·obtain⟨V,_,_⟩:=qfN h0
  have hsl:=V.s.len
  rw[h0] at hu
  cases hb:qjF c tn td
  ·have e:moE c tn td=0:=by unfold moE;rw[if_pos h0,if_neg (by rw[hb];decide)]
   rw[hb] at hw
   exact⟨fun h=>(h e).elim,fun _=>qzI (hu:=hu) (hw:=hw) (hm:=qrM (htw:=qig S (by omega)))⟩
  ·have e:moE c tn td=36:=by unfold moE;rw[if_pos h0,if_pos hb]
   rw[hb] at hw
   rw[e]
   exact⟨fun _=>qvr (hu:=hu) (hw:=hw),fun h=>by cases h⟩
 ·have e:moE c tn td=qd0 c tn td:=by unfold moE;rw[if_neg h0]
  rw[e]
  exact⟨fun _=>qvL (hu:=hu) (he:=by simpa using h0),fun h=>(h0 h).elim⟩
abbrev qf2 (s:List Pt) (tn td:Int):Ck:=⟨tn,td,s,0,[],List.replicate 200 0,List.replicate 200 false,qeU 200,[],List.replicate 200 (-1),[]⟩
abbrev qB0 (f:FuncId) (s:List Pt) (tn td e:Int):Prop:=Fn f 1 [qaB 0 s,.pv (qab tn td)] [(0,0,qam s)] (.pv (.tuple #[qbv,iV e])) 0 []
end Go.Proofs.YtkjaanhddkkodaaGreat

namespace Go.Proofs.YtkjaanhddkkodaaGreat
set_option maxRecDepth 100000
open Go.RowKit
theorem qra (y:Ev):((y.n==y.n&&(y.d==y.d&&true))&&(y.k==y.k&&((y.i==y.i&&(y.w==y.w&&true))&&true)))=true:=by simp
end Go.Proofs.YtkjaanhddkkodaaGreat

namespace Go.Proofs.YtkjaanhddkkodaaGreat
set_option maxRecDepth 100000
open Go.RowKit
theorem qqA (a b:Int):(a==a&&(b==b&&true))=true:=by simp
abbrev qj5 (c:Ck) (s:List Pt):HpL:=[(0,0,qam c.s),(1,0,qak c.l),(2,0,zrI c.u),(3,0,zrB c.b),(4,0,zrI c.fr),(5,0,qap c.ev),(6,0,zrI c.wh),(7,0,qaQ c.d),(8,0,qam s)]
theorem qBB {c:Ck} {s:List Pt} {tn td:Int} (hgf:Fn 25 1 [qaB 0 s] [(0,0,qam s)] (.pv (.bool true)) 0 []) :
 Fn 5 9 [qan c,.pv (qab tn td),qaB 8 s] (qj5 c s) (.pv (.bool true)) 0 []:=
 Fz [] [Cf hgf [8]]
  tI (Co hgf [8] 12 tI)
abbrev qqi (s:List Pt):Prop:=Fn 25 1 [qaB 0 s] [(0,0,qam s)] (.pv (.bool false)) 0 []
theorem qyZ {c:Ck} {s:List Pt} {tn td:Int} (hgf:qqi s) (hgc:Fn 26 8 [qan c] (qaq c) (.pv (.bool true)) 0 []) :
 Fn 5 9 [qan c,.pv (qab tn td),qaB 8 s] (qj5 c s) (.pv (.bool true)) 0 []:=
 Fz [] [Cf hgf [8],Cf hgc [0,1,2,3,4,5,6,7]]
  tI (Co hgf [8] 12 (Co hgc [0,1,2,3,4,5,6,7] 12 tI))
abbrev qG3 (c:Ck):HpL:=[(0,0,qam c.s),(1,0,qak c.l),(2,0,zrI c.u),(3,0,zrB c.b),(4,0,zrI c.fr),(5,0,qap c.ev),(6,0,zrI c.wh),(7,0,qaQ c.d),(8,0,qam c.s),(9,0,qak c.l),(10,0,zrI c.u),(11,0,zrB c.b),(12,0,zrI c.fr),(13,0,qap c.ev),(14,0,zrI c.wh),(15,0,qaQ c.d)]
abbrev qtm (s:List Pt):Prop:=Fn 36 2 [qaB 0 s,qaB 1 s] [(0,0,qam s),(1,0,qam s)] (.pv (.bool true)) 0 []
abbrev qs5 (s:List Pt):Prop:=Fn 32 1 [qaB 0 s] [(0,0,qam s)] (.ag [.ls 1 s.length]) 1 [(1,0,qam s)]
abbrev qrw (c:Ck) (e1:Int) (td:Int) (tn:Int):Prop:=Fn 19 8 [qan c,.pv (qab tn td)] (qaq c) (.pv (.tuple #[qbv,.agg #[iV 0,iV 0,iV 0,iV 0,iV 0],qag 0 0,iV e1])) 0 []
abbrev qrF (c:Ck) (e1:Int) (td:Int) (tn:Int):Prop:=Fn 33 8 [qan c,.pv (qab tn td)] (qaq c) (.pv (.tuple #[qbv,.agg #[iV 0,iV 0,iV 0,iV 0,iV 0],qag 0 0,iV e1])) 0 []
abbrev qhP (c:Ck):Prop:=Fn 23 16 [qan c,qdy c] (qG3 c) (.pv (.bool true)) 0 []
abbrev qin (c:Ck):Prop:=Fn 26 8 [qan c] (qaq c) (.pv (.bool false)) 0 []
abbrev qh9 (c:Ck):Prop:=Fn 14 8 [qan c] (qaq c) (qdy c) 8 (qbu c)
abbrev qiZ:Prop:=Pure Tryz.prog 23 #[qbv,qbv] (.bool true)
abbrev qrS (c:Ck) (e2:Int) (td:Int) (tn:Int):Prop:=Fn 20 8 [qan c,.pv (qab tn td)] (qaq c) (.pv (.tuple #[qbv,iV e2])) 0 []
abbrev qpV (c:Ck) (e2:Int) (td:Int) (tn:Int):Prop:=Fn 34 8 [qan c,.pv (qab tn td)] (qaq c) (.pv (.tuple #[qbv,iV e2])) 0 []
abbrev qrQ (c:Ck) (e3:Int) (s:List Pt):Prop:=Fn 21 9 [qan c,qaB 8 s] (qj5 c s) (.pv (.tuple #[qbv,iV e3])) 0 []
abbrev qqc (c:Ck) (e3:Int) (s:List Pt):Prop:=Fn 35 9 [qan c,qaB 8 s] (qj5 c s) (.pv (.tuple #[qbv,iV e3])) 0 []
theorem qyc {c:Ck} {s:List Pt} {tn td e1 e2 e3:Int} (hgf:qqi s) (hgc:qin c) (htw:qh9 c) (htf:qs5 s) (hf:qrw c e1 td tn) (hg:qrF c e1 td tn) (hm:qrS c e2 td tn) (hn:qpV c e2 td tn) (ha:qrQ c e3 s) (hb:qqc c e3 s) (hz:qiZ) (hs4:qhP c) (hs5:qtm s) :
 Fn 5 9 [qan c,.pv (qab tn td),qaB 8 s] (qj5 c s) (.pv (.bool true)) 0 []:=
 qbs 400 [] [Cf hgf [8],Cf hgc [0,1,2,3,4,5,6,7],.md,Cf htw [0,1,2,3,4,5,6,7],Cf htf [8],Cf hf [12,13,14,15,16,17,18,19],Cf hf [0,1,2,3,4,5,6,7],Cf hm [12,13,14,15,16,17,18,19],Cf hm [0,1,2,3,4,5,6,7],Cf ha [12,13,14,15,16,17,18,19,20],Cf ha [0,1,2,3,4,5,6,7,8],Rf hz,.k,.k,.t true,Rf hz,.t true,Rf hz,.t true,Cf hs4 [12,13,14,15,16,17,18,19,0,1,2,3,4,5,6,7],Cf hs5 [20,8]]
  tI (Co hgf [8] 12 (Co hgc [0,1,2,3,4,5,6,7] 12 (Co htw [0,1,2,3,4,5,6,7] 12 (Co htf [8] 20 (Co hf [12,13,14,15,16,17,18,19] 23 (Co hg [0,1,2,3,4,5,6,7] 26 (Co hm [12,13,14,15,16,17,18,19] 29 (Co hn [0,1,2,3,4,5,6,7] 30 (Co ha [12,13,14,15,16,17,18,19,20] 31 (Co hb [0,1,2,3,4,5,6,7,8] 32 (Ai hz (Ai (qbQ e1) (Ai hz (Ai (qbQ e2) (Ai hz (Ai (qbQ e3) (Co hs4 [12,13,14,15,16,17,18,19,0,1,2,3,4,5,6,7] 33 (Co hs5 [20,8] 33 tI)))))))))))))))))) (by kernel_rfl)
abbrev qDp (c:Ck) (o3:Ck) (s:List Pt) (td:Int) (tn:Int):Prop:=Fn 23 16 [qan ({ o3 with tn:=c.tn,td:=c.td,s:=s,x:=c.x,l:=c.l }:Ck),qdy ({ o3 with tn:=c.tn,td:=c.td,s:=s,x:=c.x,l:=c.l }:Ck)] [(0,0,qam s),(1,0,qak c.l),(2,0,zrI o3.u),(3,0,zrB o3.b),(4,0,zrI o3.fr),(5,0,qap o3.ev),(6,0,zrI o3.wh),(7,0,qaQ o3.d),(8,0,qam s),(9,0,qak c.l),(10,0,zrI o3.u),(11,0,zrB o3.b),(12,0,zrI o3.fr),(13,0,qap o3.ev),(14,0,zrI o3.wh),(15,0,qaQ o3.d)] (.pv (.bool true)) 0 []
abbrev qDv (c:Ck) (o3:Ck) (s:List Pt):Prop:=Fn 21 9 [qan c,qaB 8 s] (qj5 c s) (.tu [.ag [.pv (iV c.tn),.pv (iV c.td),.ls 9 s.length,.pv (iV c.x),.ls 10 c.l.length,.ls 11 o3.u.length,.ls 12 o3.b.length,.ls 13 o3.fr.length,.ls 14 o3.ev.length,.ls 15 o3.wh.length,.ls 16 o3.d.length],.one (.pv (iV 0))]) 8 [(9,0,qam s),(10,0,qak c.l),(11,0,zrI o3.u),(12,0,zrB o3.b),(13,0,zrI o3.fr),(14,0,qap o3.ev),(15,0,zrI o3.wh),(16,0,qaQ o3.d)]
abbrev qDH (c:Ck) (o3:Ck) (s:List Pt):Prop:=Fn 35 9 [qan c,qaB 8 s] (qj5 c s) (.tu [.ag [.pv (iV c.tn),.pv (iV c.td),.ls 9 s.length,.pv (iV c.x),.ls 10 c.l.length,.ls 11 o3.u.length,.ls 12 o3.b.length,.ls 13 o3.fr.length,.ls 14 o3.ev.length,.ls 15 o3.wh.length,.ls 16 o3.d.length],.one (.pv (iV 0))]) 8 [(9,0,qam s),(10,0,qak c.l),(11,0,zrI o3.u),(12,0,zrB o3.b),(13,0,zrI o3.fr),(14,0,qap o3.ev),(15,0,zrI o3.wh),(16,0,qaQ o3.d)]
theorem quP {c o3:Ck} {s:List Pt} {tn td e1 e2:Int} (hgf:qqi s) (hgc:qin c) (htw:qh9 c) (htf:qs5 s) (hf:qrw c e1 td tn) (hg:qrF c e1 td tn) (hm:qrS c e2 td tn) (hn:qpV c e2 td tn) (ha:qDv c o3 s) (hb:qDH c o3 s) (hz:qiZ) (hs3:qDp c o3 s td tn) (hs4:qhP c) (hs5:qtm s) :
 Fn 5 9 [qan c,.pv (qab tn td),qaB 8 s] (qj5 c s) (.pv (.bool true)) 0 []:=
 qbs 400 [] [Cf hgf [8],Cf hgc [0,1,2,3,4,5,6,7],.md,Cf htw [0,1,2,3,4,5,6,7],Cf htf [8],Cf hf [12,13,14,15,16,17,18,19],Cf hf [0,1,2,3,4,5,6,7],Cf hm [12,13,14,15,16,17,18,19],Cf hm [0,1,2,3,4,5,6,7],Cf ha [12,13,14,15,16,17,18,19,20],Cf ha [0,1,2,3,4,5,6,7,8],Rf hz,.k,.k,.t true,Rf hz,.t true,Cf hs3 [31,32,33,34,35,36,37,38,40,41,42,43,44,45,46,47],.k,Cf hs4 [12,13,14,15,16,17,18,19,0,1,2,3,4,5,6,7],Cf hs5 [20,8]]
  tI (Co hgf [8] 12 (Co hgc [0,1,2,3,4,5,6,7] 12 (Co htw [0,1,2,3,4,5,6,7] 12 (Co htf [8] 20 (Co hf [12,13,14,15,16,17,18,19] 23 (Co hg [0,1,2,3,4,5,6,7] 26 (Co hm [12,13,14,15,16,17,18,19] 29 (Co hn [0,1,2,3,4,5,6,7] 30 (Co ha [12,13,14,15,16,17,18,19,20] 31 (Co hb [0,1,2,3,4,5,6,7,8] 40 (Ai hz (Ai (qbQ e1) (Ai hz (Ai (qbQ e2) (Co hs3 [31,32,33,34,35,36,37,38,40,41,42,43,44,45,46,47] 49 (Co hs4 [12,13,14,15,16,17,18,19,0,1,2,3,4,5,6,7] 49 (Co hs5 [20,8] 49 tI))))))))))))))))) (by kernel_rfl)
abbrev qpT (c:Ck) (td:Int) (tn:Int):Prop:=Fn 20 8 [qan c,.pv (qab tn td)] (qaq c) (.tu [qfW ({ c with tn:=tn,td:=td }:Ck),.one (.pv (iV 0))]) 8 (qbu c)
abbrev qre (c:Ck) (td:Int) (tn:Int):Prop:=Fn 34 8 [qan c,.pv (qab tn td)] (qaq c) (.tu [qfW ({ c with tn:=tn,td:=td }:Ck),.one (.pv (iV 0))]) 8 (qbu c)
abbrev qpX (c:Ck) (td:Int) (tn:Int):Prop:=Fn 23 16 [qan ({ c with tn:=tn,td:=td }:Ck),qdy ({ c with tn:=tn,td:=td }:Ck)] (qG3 c) (.pv (.bool true)) 0 []
theorem quz {c:Ck} {s:List Pt} {tn td e1 e3:Int} (hgf:qqi s) (hgc:qin c) (htw:qh9 c) (htf:qs5 s) (hf:qrw c e1 td tn) (hg:qrF c e1 td tn) (hm:qpT c td tn) (hn:qre c td tn) (ha:qrQ c e3 s) (hb:qqc c e3 s) (hz:qiZ) (hs2:qpX c td tn) (hs4:qhP c) (hs5:qtm s) :
 Fn 5 9 [qan c,.pv (qab tn td),qaB 8 s] (qj5 c s) (.pv (.bool true)) 0 []:=
 qbs 400 [] [Cf hgf [8],Cf hgc [0,1,2,3,4,5,6,7],.md,Cf htw [0,1,2,3,4,5,6,7],Cf htf [8],Cf hf [12,13,14,15,16,17,18,19],Cf hf [0,1,2,3,4,5,6,7],Cf hm [12,13,14,15,16,17,18,19],Cf hm [0,1,2,3,4,5,6,7],Cf ha [12,13,14,15,16,17,18,19,20],Cf ha [0,1,2,3,4,5,6,7,8],Rf hz,.k,.k,.t true,Cf hs2 [29,30,31,32,33,34,35,36,38,39,40,41,42,43,44,45],.k,Rf hz,.t true,Cf hs4 [12,13,14,15,16,17,18,19,0,1,2,3,4,5,6,7],Cf hs5 [20,8]]
  tI (Co hgf [8] 12 (Co hgc [0,1,2,3,4,5,6,7] 12 (Co htw [0,1,2,3,4,5,6,7] 12 (Co htf [8] 20 (Co hf [12,13,14,15,16,17,18,19] 23 (Co hg [0,1,2,3,4,5,6,7] 26 (Co hm [12,13,14,15,16,17,18,19] 29 (Co hn [0,1,2,3,4,5,6,7] 38 (Co ha [12,13,14,15,16,17,18,19,20] 47 (Co hb [0,1,2,3,4,5,6,7,8] 48 (Ai hz (Ai (qbQ e1) (Co hs2 [29,30,31,32,33,34,35,36,38,39,40,41,42,43,44,45] 49 (Ai hz (Ai (qbQ e3) (Co hs4 [12,13,14,15,16,17,18,19,0,1,2,3,4,5,6,7] 49 (Co hs5 [20,8] 49 tI))))))))))))))))) (by kernel_rfl)
theorem qwP {c o3:Ck} {s:List Pt} {tn td e1:Int} (hgf:qqi s) (hgc:qin c) (htw:qh9 c) (htf:qs5 s) (hf:qrw c e1 td tn) (hg:qrF c e1 td tn) (hm:qpT c td tn) (hn:qre c td tn) (ha:qDv c o3 s) (hb:qDH c o3 s) (hz:qiZ) (hs2:qpX c td tn) (hs3:qDp c o3 s td tn) (hs4:qhP c) (hs5:qtm s) :
 Fn 5 9 [qan c,.pv (qab tn td),qaB 8 s] (qj5 c s) (.pv (.bool true)) 0 []:=
 qbs 400 [] [Cf hgf [8],Cf hgc [0,1,2,3,4,5,6,7],.md,Cf htw [0,1,2,3,4,5,6,7],Cf htf [8],Cf hf [12,13,14,15,16,17,18,19],Cf hf [0,1,2,3,4,5,6,7],Cf hm [12,13,14,15,16,17,18,19],Cf hm [0,1,2,3,4,5,6,7],Cf ha [12,13,14,15,16,17,18,19,20],Cf ha [0,1,2,3,4,5,6,7,8],Rf hz,.k,.k,.t true,Cf hs2 [29,30,31,32,33,34,35,36,38,39,40,41,42,43,44,45],.k,Cf hs3 [47,48,49,50,51,52,53,54,56,57,58,59,60,61,62,63],.k,Cf hs4 [12,13,14,15,16,17,18,19,0,1,2,3,4,5,6,7],Cf hs5 [20,8]]
  tI (Co hgf [8] 12 (Co hgc [0,1,2,3,4,5,6,7] 12 (Co htw [0,1,2,3,4,5,6,7] 12 (Co htf [8] 20 (Co hf [12,13,14,15,16,17,18,19] 23 (Co hg [0,1,2,3,4,5,6,7] 26 (Co hm [12,13,14,15,16,17,18,19] 29 (Co hn [0,1,2,3,4,5,6,7] 38 (Co ha [12,13,14,15,16,17,18,19,20] 47 (Co hb [0,1,2,3,4,5,6,7,8] 56 (Ai hz (Ai (qbQ e1) (Co hs2 [29,30,31,32,33,34,35,36,38,39,40,41,42,43,44,45] 65 (Co hs3 [47,48,49,50,51,52,53,54,56,57,58,59,60,61,62,63] 65 (Co hs4 [12,13,14,15,16,17,18,19,0,1,2,3,4,5,6,7] 65 (Co hs5 [20,8] 65 tI)))))))))))))))) (by kernel_rfl)
abbrev qDz (o1:Ck):Prop:=Fn 23 16 [qan o1,qdy o1] [(0,0,qam o1.s),(1,0,qak o1.l),(2,0,zrI o1.u),(3,0,zrB o1.b),(4,0,zrI o1.fr),(5,0,qap o1.ev),(6,0,zrI o1.wh),(7,0,qaQ o1.d),(8,0,qam o1.s),(9,0,qak o1.l),(10,0,zrI o1.u),(11,0,zrB o1.b),(12,0,zrI o1.fr),(13,0,qap o1.ev),(14,0,zrI o1.wh),(15,0,qaQ o1.d)] (.pv (.bool true)) 0 []
abbrev qsB (c:Ck) (o1:Ck) (p:Pt) (td:Int) (tn:Int) (y:Ev):Prop:=Fn 19 8 [qan c,.pv (qab tn td)] (qaq c) (.tu [qfW o1,.one (.pv (qaa y)),.one (.pv (qag p.a p.b)),.one (.pv (iV 0))]) 8 (qbu o1)
abbrev qr5 (c:Ck) (o1:Ck) (p:Pt) (td:Int) (tn:Int) (y:Ev):Prop:=Fn 33 8 [qan c,.pv (qab tn td)] (qaq c) (.tu [qfW o1,.one (.pv (qaa y)),.one (.pv (qag p.a p.b)),.one (.pv (iV 0))]) 8 (qbu o1)
theorem qxj {c o1:Ck} {s:List Pt} {tn td e2 e3:Int} {y:Ev} {p:Pt} (hgf:qqi s) (hgc:qin c) (htw:qh9 c) (htf:qs5 s) (hf:qsB c o1 p td tn y) (hg:qr5 c o1 p td tn y) (hm:qrS c e2 td tn) (hn:qpV c e2 td tn) (ha:qrQ c e3 s) (hb:qqc c e3 s) (hs1:qDz o1) (hz:qiZ) (hs4:qhP c) (hs5:qtm s) :
 Fn 5 9 [qan c,.pv (qab tn td),qaB 8 s] (qj5 c s) (.pv (.bool true)) 0 []:=
 qbs 400 [] [Cf hgf [8],Cf hgc [0,1,2,3,4,5,6,7],.md,Cf htw [0,1,2,3,4,5,6,7],Cf htf [8],Cf hf [12,13,14,15,16,17,18,19],Cf hf [0,1,2,3,4,5,6,7],Cf hm [12,13,14,15,16,17,18,19],Cf hm [0,1,2,3,4,5,6,7],Cf ha [12,13,14,15,16,17,18,19,20],Cf ha [0,1,2,3,4,5,6,7,8],Cf hs1 [23,24,25,26,27,28,29,30,34,35,36,37,38,39,40,41],.t true,.t true,.k,Rf hz,.t true,Rf hz,.t true,Cf hs4 [12,13,14,15,16,17,18,19,0,1,2,3,4,5,6,7],Cf hs5 [20,8]]
  tI (Co hgf [8] 12 (Co hgc [0,1,2,3,4,5,6,7] 12 (Co htw [0,1,2,3,4,5,6,7] 12 (Co htf [8] 20 (Co hf [12,13,14,15,16,17,18,19] 23 (Co hg [0,1,2,3,4,5,6,7] 34 (Co hm [12,13,14,15,16,17,18,19] 45 (Co hn [0,1,2,3,4,5,6,7] 46 (Co ha [12,13,14,15,16,17,18,19,20] 47 (Co hb [0,1,2,3,4,5,6,7,8] 48 (Co hs1 [23,24,25,26,27,28,29,30,34,35,36,37,38,39,40,41] 49 (Ai (qra y) (Ai (qqA p.a p.b) (Ai hz (Ai (qbQ e2) (Ai hz (Ai (qbQ e3) (Co hs4 [12,13,14,15,16,17,18,19,0,1,2,3,4,5,6,7] 49 (Co hs5 [20,8] 49 tI))))))))))))))))))) (by kernel_rfl)
theorem qx8 {c o1 o3:Ck} {s:List Pt} {tn td e2:Int} {y:Ev} {p:Pt} (hgf:qqi s) (hgc:qin c) (htw:qh9 c) (htf:qs5 s) (hf:qsB c o1 p td tn y) (hg:qr5 c o1 p td tn y) (hm:qrS c e2 td tn) (hn:qpV c e2 td tn) (ha:qDv c o3 s) (hb:qDH c o3 s) (hs1:qDz o1) (hz:qiZ) (hs3:qDp c o3 s td tn) (hs4:qhP c) (hs5:qtm s) :
 Fn 5 9 [qan c,.pv (qab tn td),qaB 8 s] (qj5 c s) (.pv (.bool true)) 0 []:=
 qbs 400 [] [Cf hgf [8],Cf hgc [0,1,2,3,4,5,6,7],.md,Cf htw [0,1,2,3,4,5,6,7],Cf htf [8],Cf hf [12,13,14,15,16,17,18,19],Cf hf [0,1,2,3,4,5,6,7],Cf hm [12,13,14,15,16,17,18,19],Cf hm [0,1,2,3,4,5,6,7],Cf ha [12,13,14,15,16,17,18,19,20],Cf ha [0,1,2,3,4,5,6,7,8],Cf hs1 [23,24,25,26,27,28,29,30,34,35,36,37,38,39,40,41],.t true,.t true,.k,Rf hz,.t true,Cf hs3 [47,48,49,50,51,52,53,54,56,57,58,59,60,61,62,63],.k,Cf hs4 [12,13,14,15,16,17,18,19,0,1,2,3,4,5,6,7],Cf hs5 [20,8]]
  tI (Co hgf [8] 12 (Co hgc [0,1,2,3,4,5,6,7] 12 (Co htw [0,1,2,3,4,5,6,7] 12 (Co htf [8] 20 (Co hf [12,13,14,15,16,17,18,19] 23 (Co hg [0,1,2,3,4,5,6,7] 34 (Co hm [12,13,14,15,16,17,18,19] 45 (Co hn [0,1,2,3,4,5,6,7] 46 (Co ha [12,13,14,15,16,17,18,19,20] 47 (Co hb [0,1,2,3,4,5,6,7,8] 56 (Co hs1 [23,24,25,26,27,28,29,30,34,35,36,37,38,39,40,41] 65 (Ai (qra y) (Ai (qqA p.a p.b) (Ai hz (Ai (qbQ e2) (Co hs3 [47,48,49,50,51,52,53,54,56,57,58,59,60,61,62,63] 65 (Co hs4 [12,13,14,15,16,17,18,19,0,1,2,3,4,5,6,7] 65 (Co hs5 [20,8] 65 tI)))))))))))))))))) (by kernel_rfl)
theorem qxl {c o1:Ck} {s:List Pt} {tn td e3:Int} {y:Ev} {p:Pt} (hgf:qqi s) (hgc:qin c) (htw:qh9 c) (htf:qs5 s) (hf:qsB c o1 p td tn y) (hg:qr5 c o1 p td tn y) (hm:qpT c td tn) (hn:qre c td tn) (ha:qrQ c e3 s) (hb:qqc c e3 s) (hs1:qDz o1) (hs2:qpX c td tn) (hz:qiZ) (hs4:qhP c) (hs5:qtm s) :
 Fn 5 9 [qan c,.pv (qab tn td),qaB 8 s] (qj5 c s) (.pv (.bool true)) 0 []:=
 qbs 400 [] [Cf hgf [8],Cf hgc [0,1,2,3,4,5,6,7],.md,Cf htw [0,1,2,3,4,5,6,7],Cf htf [8],Cf hf [12,13,14,15,16,17,18,19],Cf hf [0,1,2,3,4,5,6,7],Cf hm [12,13,14,15,16,17,18,19],Cf hm [0,1,2,3,4,5,6,7],Cf ha [12,13,14,15,16,17,18,19,20],Cf ha [0,1,2,3,4,5,6,7,8],Cf hs1 [23,24,25,26,27,28,29,30,34,35,36,37,38,39,40,41],.t true,.t true,.k,Cf hs2 [45,46,47,48,49,50,51,52,54,55,56,57,58,59,60,61],.k,Rf hz,.t true,Cf hs4 [12,13,14,15,16,17,18,19,0,1,2,3,4,5,6,7],Cf hs5 [20,8]]
  tI (Co hgf [8] 12 (Co hgc [0,1,2,3,4,5,6,7] 12 (Co htw [0,1,2,3,4,5,6,7] 12 (Co htf [8] 20 (Co hf [12,13,14,15,16,17,18,19] 23 (Co hg [0,1,2,3,4,5,6,7] 34 (Co hm [12,13,14,15,16,17,18,19] 45 (Co hn [0,1,2,3,4,5,6,7] 54 (Co ha [12,13,14,15,16,17,18,19,20] 63 (Co hb [0,1,2,3,4,5,6,7,8] 64 (Co hs1 [23,24,25,26,27,28,29,30,34,35,36,37,38,39,40,41] 65 (Ai (qra y) (Ai (qqA p.a p.b) (Co hs2 [45,46,47,48,49,50,51,52,54,55,56,57,58,59,60,61] 65 (Ai hz (Ai (qbQ e3) (Co hs4 [12,13,14,15,16,17,18,19,0,1,2,3,4,5,6,7] 65 (Co hs5 [20,8] 65 tI)))))))))))))))))) (by kernel_rfl)
theorem quQ {c o1 o3:Ck} {s:List Pt} {tn td:Int} {y:Ev} {p:Pt} (hgf:qqi s) (hgc:qin c) (htw:qh9 c) (htf:qs5 s) (hf:qsB c o1 p td tn y) (hg:qr5 c o1 p td tn y) (hm:qpT c td tn) (hn:qre c td tn) (ha:qDv c o3 s) (hb:qDH c o3 s) (hs1:qDz o1) (hs2:qpX c td tn) (hs3:qDp c o3 s td tn) (hs4:qhP c) (hs5:qtm s) :
 Fn 5 9 [qan c,.pv (qab tn td),qaB 8 s] (qj5 c s) (.pv (.bool true)) 0 []:=
 qbs 400 [] [Cf hgf [8],Cf hgc [0,1,2,3,4,5,6,7],.md,Cf htw [0,1,2,3,4,5,6,7],Cf htf [8],Cf hf [12,13,14,15,16,17,18,19],Cf hf [0,1,2,3,4,5,6,7],Cf hm [12,13,14,15,16,17,18,19],Cf hm [0,1,2,3,4,5,6,7],Cf ha [12,13,14,15,16,17,18,19,20],Cf ha [0,1,2,3,4,5,6,7,8],Cf hs1 [23,24,25,26,27,28,29,30,34,35,36,37,38,39,40,41],.t true,.t true,.k,Cf hs2 [45,46,47,48,49,50,51,52,54,55,56,57,58,59,60,61],.k,Cf hs3 [63,64,65,66,67,68,69,70,72,73,74,75,76,77,78,79],.k,Cf hs4 [12,13,14,15,16,17,18,19,0,1,2,3,4,5,6,7],Cf hs5 [20,8]]
  tI (Co hgf [8] 12 (Co hgc [0,1,2,3,4,5,6,7] 12 (Co htw [0,1,2,3,4,5,6,7] 12 (Co htf [8] 20 (Co hf [12,13,14,15,16,17,18,19] 23 (Co hg [0,1,2,3,4,5,6,7] 34 (Co hm [12,13,14,15,16,17,18,19] 45 (Co hn [0,1,2,3,4,5,6,7] 54 (Co ha [12,13,14,15,16,17,18,19,20] 63 (Co hb [0,1,2,3,4,5,6,7,8] 72 (Co hs1 [23,24,25,26,27,28,29,30,34,35,36,37,38,39,40,41] 81 (Ai (qra y) (Ai (qqA p.a p.b) (Co hs2 [45,46,47,48,49,50,51,52,54,55,56,57,58,59,60,61] 81 (Co hs3 [63,64,65,66,67,68,69,70,72,73,74,75,76,77,78,79] 81 (Co hs4 [12,13,14,15,16,17,18,19,0,1,2,3,4,5,6,7] 81 (Co hs5 [20,8] 81 tI))))))))))))))))) (by kernel_rfl)
end Go.Proofs.YtkjaanhddkkodaaGreat

namespace Go.Proofs.YtkjaanhddkkodaaGreat
set_option maxRecDepth 100000
open Go.RowKit
theorem FailIs.one {p q:Pt} {n d m k m' k':Int} {s s':Bool} (h:FailIs p q n d m k s) (h':FailIs p q n d m' k' s'):m=m'∧k=k'∧s=s':=by
 cases s<;>cases s'
 ·obtain⟨rfl,rfl⟩:=h.no rfl
  obtain⟨rfl,rfl⟩:=h'.no rfl
  exact⟨rfl,rfl,rfl⟩
 ·obtain⟨o,_,_,l⟩:=h'.ok rfl
  have:=h.before m' k' o l (fun e=>by cases e)
  rw[h'.then_ rfl] at this
  cases this
 ·obtain⟨o,_,_,l⟩:=h.ok rfl
  have:=h'.before m k o l (fun e=>by cases e)
  rw[h.then_ rfl] at this
  cases this
 ·obtain⟨o,_,_,l⟩:=h.ok rfl
  obtain⟨o',_,_,l'⟩:=h'.ok rfl
  have e:m*k'=m'*k:=by
   rcases Int.lt_trichotomy (m*k') (m'*k) with e | e | e
   ·have:=h'.before m k o l (fun _=>e)
    rw[h.then_ rfl] at this
    cases this
   ·exact e
   ·have:=h.before m' k' o' l' (fun _=>e)
    rw[h'.then_ rfl] at this
    cases this
  obtain⟨rfl,rfl⟩:=qgS o o' e
  exact⟨rfl,rfl,rfl⟩
theorem FailIs.later {p q:Pt} {n d n' d' m k:Int} {s:Bool} (h:FailIs p q n d m k s) (hd:okB n d=true) (hd':okB n' d'=true) (h1:n*d'≤n'*d) (h2:s=true→n'*k≤m*d'):FailIs p q n' d' m k s where
 ok:=fun e=>by
  obtain⟨o,i1,i2,_⟩:=h.ok e
  exact⟨o,i1,i2,h2 e⟩
 no:=h.no
 then_:=h.then_
 before:=fun tn td ht l1 l2=>h.before tn td ht (by
  have a:=qcl hd
  have b:=qcl hd'
  have c:=qcl ht
  exact qx7 (n:=n') (d:=d') (tn:=tn) (td:=td) (m:=n) (k:=d) (by omega) (by omega) (by omega) h1 l1) l2
theorem qji {s:List Pt} {n d n' d':Int} {p:Pt} (h:FailT s n d p) (h':FailT s n' d' p) (hd:okB n d=true) (hd':okB n' d'=true) (h1:n*d'≤n'*d) (h2:(qaf s n d p).2.2=true→n'*(qaf s n d p).2.1≤(qaf s n d p).1*d'):qaf s n' d' p=qaf s n d p:=by
 obtain⟨e1,e2,e3⟩:=(h.i.later hd hd' h1 h2).one h'.i
 exact Prod.ext e1.symm (Prod.ext e2.symm e3.symm)
theorem DueOk.own {c:Ck} {p q:Pt} {y:Ev} (h:DueOk c p q y) (ha:VA c.u c.b c.fr c.ev c.wh):y.i=q.a∧y.w=q.b:=by
 obtain⟨w,y',h1,h2,h3,h4⟩:=VA.find ha h.lv
 obtain⟨w',g1,g2⟩:=h.at_
 rw[h1] at g1
 have e:(w:Int)=(w':Int):=Option.some.inj g1
 have e2:w=w':=by omega
 subst e2
 rw[h2] at g2
 have e3:y'=y:=Option.some.inj g2
 subst e3
 exact⟨h3,h4⟩
theorem DueOk.mk' {c:Ck} {p q:Pt} {y:Ev} (ha:VA c.u c.b c.fr c.ev c.wh) (hy:y∈c.ev) (e1:y.i=q.a) (e2:y.w=q.b) (id:q.id=p.id) (k:y.k=p.id) (n:y.n=(qaf c.s c.tn c.td p).1) (d:y.d=(qaf c.s c.tn c.td p).2.1):DueOk c p q y:=by
 obtain⟨j,hj⟩:=List.getElem?_of_mem hy
 obtain⟨h1,h2⟩:=VA.own ha hj
 rw[e1,e2] at h1
 rw[e1] at h2
 exact⟨id,h1,⟨j,h2,hj⟩,k,n,d⟩
theorem DueF.map {c o:Ck} {l:List Pt}:∀ {d:List Pt},(∀ p∈l,qaf o.s o.tn o.td p=qaf c.s c.tn c.td p)→(∀ p∈l,∀ q∈d,(∃ y,DueOk c p q y)→∃ y,DueOk o p q y)→DueF c l d→DueF o l d:=by
 induction l with
 | nil=>intro d _ _ h;exact h
 | cons p l ih=>
  intro d hf hk h
  have e:=hf p List.mem_cons_self
  show if (qaf o.s o.tn o.td p).2.2=true then _ else _
  rw[e]
  cases f:(qaf c.s c.tn c.td p).2.2
  ·have h':DueF c l d:=by
    have:(if (qaf c.s c.tn c.td p).2.2=true then _ else _):=h
    rwa [if_neg (by rw[f];decide)] at this
   rw[if_neg (by decide)]
   exact ih (fun p' hp'=>hf p' (List.mem_cons_of_mem _ hp')) (fun p' hp'=>hk p' (List.mem_cons_of_mem _ hp')) h'
  ·have h':∃ q r,d=q::r∧(∃ y,DueOk c p q y)∧DueF c l r:=by
    have:(if (qaf c.s c.tn c.td p).2.2=true then _ else _):=h
    rwa [if_pos f] at this
   obtain⟨q,r,hd,hy,hr⟩:=h'
   rw[if_pos rfl]
   subst hd
   exact⟨q,r,rfl,hk p List.mem_cons_self q List.mem_cons_self hy,ih (fun p' hp'=>hf p' (List.mem_cons_of_mem _ hp')) (fun p' hp' q' hq'=>hk p' (List.mem_cons_of_mem _ hp') q' (List.mem_cons_of_mem _ hq')) hr⟩
theorem DueF.snoc {c:Ck} {p:Pt} {l:List Pt}:∀ {d:List Pt},DueF c l d→(qba c p=false→DueF c (l++[p]) d)∧(qba c p=true→∀ q y,DueOk c p q y→DueF c (l++[p]) (d++[q])):=by
 induction l with
 | nil=>
  intro d h
  have e:d=[]:=h
  subst e
  refine⟨fun f=>?_,fun f q y hy=>?_⟩
  ·show if (qaf c.s c.tn c.td p).2.2=true then _ else _
   rw[if_neg (by rw[show (qaf c.s c.tn c.td p).2.2=false from f];decide)]
   rfl
  ·show if (qaf c.s c.tn c.td p).2.2=true then _ else _
   rw[if_pos f]
   exact⟨q,[],rfl,⟨y,hy⟩,rfl⟩
 | cons p' l ih=>
  intro d h
  cases f':(qaf c.s c.tn c.td p').2.2
  ·have h':DueF c l d:=by
    have:(if (qaf c.s c.tn c.td p').2.2=true then _ else _):=h
    rwa [if_neg (by rw[f'];decide)] at this
   obtain⟨i1,i2⟩:=ih h'
   refine⟨fun f=>?_,fun f q y hy=>?_⟩
   ·show if (qaf c.s c.tn c.td p').2.2=true then _ else _
    rw[if_neg (by rw[f'];decide)]
    exact i1 f
   ·show if (qaf c.s c.tn c.td p').2.2=true then _ else _
    rw[if_neg (by rw[f'];decide)]
    exact i2 f q y hy
  ·have h':∃ q r,d=q::r∧(∃ y,DueOk c p' q y)∧DueF c l r:=by
    have:(if (qaf c.s c.tn c.td p').2.2=true then _ else _):=h
    rwa [if_pos f'] at this
   obtain⟨q',r,hd,hy',hr⟩:=h'
   subst hd
   obtain⟨i1,i2⟩:=ih hr
   refine⟨fun f=>?_,fun f q y hy=>?_⟩
   ·show if (qaf c.s c.tn c.td p').2.2=true then _ else _
    rw[if_pos f']
    exact⟨q',r,rfl,hy',i1 f⟩
   ·show if (qaf c.s c.tn c.td p').2.2=true then _ else _
    rw[if_pos f']
    exact⟨q',r++[q],rfl,hy',i2 f q y hy⟩
end Go.Proofs.YtkjaanhddkkodaaGreat

namespace Go.Proofs.YtkjaanhddkkodaaGreat
set_option maxRecDepth 100000
open Go.RowKit
theorem V9.small {c:Ck} (V:V9 c) (h1:I64 c.tn) (h2:I64 c.td):S9 c where
 tn:=h1
 td:=h2
 l:=by have:=V.v.len;omega
 d:=by have:=V.a.lens;have:=V.e;omega
 a:=V.a.sm
theorem DueF.cut {c:Ck} (n:Int) {l:List Pt}:∀ {d:List Pt},DueF c l d→DueF c (qaT l n) (qaT d n):=by
 induction l with
 | nil=>
  intro d h
  have e:d=[]:=h
  subst e
  exact h
 | cons p l ih=>
  intro d h
  cases f:(qaf c.s c.tn c.td p).2.2
  ·have h':DueF c l d:=by
    have:(if (qaf c.s c.tn c.td p).2.2=true then _ else _):=h
    rwa [if_neg (by rw[f];decide)] at this
   by_cases e:p.id=n
   ·rw[qaT,List.filter_cons_of_neg (by simp[e])]
    exact ih h'
   ·rw[qaT,List.filter_cons_of_pos (by simp[e])]
    show if (qaf c.s c.tn c.td p).2.2=true then _ else _
    rw[if_neg (by rw[f];decide)]
    exact ih h'
  ·have h':∃ q r,d=q::r∧(∃ y,DueOk c p q y)∧DueF c l r:=by
    have:(if (qaf c.s c.tn c.td p).2.2=true then _ else _):=h
    rwa [if_pos f] at this
   obtain⟨q,r,hd,⟨y,hy⟩,hr⟩:=h'
   subst hd
   have hid:=hy.id
   by_cases e:p.id=n
   ·rw[qaT,List.filter_cons_of_neg (by simp[e]),qaT,List.filter_cons_of_neg (by simp[hid,e])]
    exact ih hr
   ·rw[qaT,List.filter_cons_of_pos (by simp[e]),qaT,List.filter_cons_of_pos (by simp[hid,e])]
    show if (qaf c.s c.tn c.td p).2.2=true then _ else _
    rw[if_pos f]
    exact⟨q,_,rfl,⟨y,hy⟩,ih hr⟩
theorem Up.lt_pw {l:List Pt} (h:Up l):(l.map Pt.id).Pairwise (fun a b=>a<b):=by
 rw[List.pairwise_iff_getElem]
 intro i j hi hj hij
 rw[List.getElem_map,List.getElem_map]
 have hi':i<l.length:=by simpa using hi
 have hj':j<l.length:=by simpa using hj
 exact h.mono hij (List.getElem?_eq_getElem hi') (List.getElem?_eq_getElem hj')
theorem V9.due_up {c:Ck} (V:V9 c):Up c.d:=by
 have pw:(c.d.map Pt.id).Pairwise (fun a b=>a<b):=by
  rw[V.f.ids]
  exact V.v.up.lt_pw.sublist (List.Sublist.map _ List.filter_sublist)
 intro k p q hp hq
 rw[List.pairwise_iff_getElem] at pw
 have h1:=qai hp
 have h2:=qai hq
 obtain⟨_,e1⟩:=List.getElem?_eq_some_iff.1 hp
 obtain⟨_,e2⟩:=List.getElem?_eq_some_iff.1 hq
 have:=pw k (k+1) (by simpa using h1) (by simpa using h2) (by omega)
 rw[List.getElem_map,List.getElem_map,e1,e2] at this
 exact this
theorem V8.without {x:Int} {l:List Pt} (h:V8 x l) (n:Int):V8 x (qaT l n):=by
 rcases qtg h.up n with ⟨k,p,hk,he⟩ | ⟨hno,_⟩
 ·have e:qaT l n=l.take k++l.drop (k+1):=by rw[← qel h.up hk,he]
  rw[e]
  exact V8.cut h k
 ·have e:qaT l n=l:=List.filter_eq_self.2 fun p hp=>by simpa using hno p hp
  rw[e]
  exact h
theorem V9.gone_ok {c o:Ck} (V:V9 c) {n:Int} (h:qeK c n o):V9 o:=by
 have kn:qdf (qaT c.l n) c.s:=fun p hp=>V.k p (List.mem_filter.1 hp).1
 rcases h with ⟨h1,rfl⟩ | ⟨k,q,j,y,hq,he,_,hy,e1,e2,rfl⟩
 ·have e:qaT c.d n=c.d:=List.filter_eq_self.2 fun q hq=>by simpa using h1 q hq
  have D:=V.f.cut n
  rw[e] at D
  exact⟨V.t,V.s,V.v.without n,kn,V.a,V.w,V.e,DueF.map (c:=c) (fun _ _=>rfl) (fun _ _ _ _ ⟨y,h⟩=>⟨y,⟨h.id,h.lv,h.at_,h.k,h.n,h.d⟩⟩) D⟩
 ·obtain⟨A,pm,_⟩:=VA.without V.a hy
  have e:qaT c.d n=c.d.take k++c.d.drop (k+1):=by rw[← qel V.due_up hq,he]
  have D:=V.f.cut n
  have hk:=qai hq
  have l0:=V.a.lens
  have l1:=A.lens
  have wl:=V.w
  have el:=V.e
  have le:=pm.length_eq
  rw[List.length_append] at le
  simp only[List.length_cons,List.length_nil] at le
  have y0:y.k=n:=by
   obtain⟨p0,_,_,y',hd⟩:=V.f.some q (List.mem_of_getElem? hq)
   obtain⟨w,g1,g2⟩:=hd.at_
   have o1:=(VA.own V.a hy).2
   rw[e1,g1] at o1
   have e3:(w:Int)=(j:Int):=Option.some.inj o1
   have e4:w=j:=by omega
   subst e4
   rw[hy] at g2
   have e5:y=y':=Option.some.inj g2
   subst e5
   exact hd.k.trans (hd.id.symm.trans he)
  have D2:DueF (qFo c n k j y) (qaT c.l n) (qaT c.d n):=DueF.map (c:=c) (fun _ _=>rfl) (fun p _ q' hq' ⟨y',h'⟩=>by
   obtain⟨f1,f2⟩:=h'.own V.a
   obtain⟨w,_,g2⟩:=h'.at_
   have hne:q'.id≠n:=by simpa using (List.mem_filter.1 hq').2
   refine⟨y',DueOk.mk' A ?_ f1 f2 h'.id h'.k h'.n h'.d⟩
   rcases List.mem_append.1 (pm.mem_iff.2 (List.mem_of_getElem? g2)) with hm | hm
   ·exact hm
   ·exfalso
    have e6:=List.mem_singleton.1 hm
    subst e6
    exact hne (h'.id.trans (h'.k.symm.trans y0))) D
  rw[e] at D2
  exact⟨V.t,V.s,V.v.without n,kn,A,by show (qaj _ _ _ _).2.length=200;omega,by show (qaj _ _ _ _).1.length=(c.d.take k++c.d.drop (k+1)).length;simp;omega,D2⟩
theorem qiA {u fr wh:List Int} {b:List Bool} {ev:List Ev} (h:VA u b fr ev wh) {x:Ev} (hx:ev[0]?=some x):∀ (j:Nat) (y:Ev),ev[j]?=some y→ltE y x=false:=by
 intro j
 induction j using Nat.strongRecOn with
 | ind j ih=>
  intro y hy
  rcases Nat.eq_zero_or_pos j with e | e
  ·subst e
   rw[hx] at hy
   cases hy
   exact qem _
  ·have hj:=qai hy
   obtain⟨z,hz⟩:=qah (l:=ev) (k:=(j-1)/2) (by omega)
   have h1:=h.hp j e hj
   unfold qbH at h1
   rw[hy,hz] at h1
   have h2:ltE y z=false:=by simpa using h1
   have ok:∀ w∈ev,EvOk w:=h.ef.ok
   exact qby (ok y (List.mem_of_getElem? hy)) (ok z (List.mem_of_getElem? hz)) (ok x (List.mem_of_getElem? hx)) h2 (ih ((j-1)/2) (by omega) z hz)
theorem qtx {x y:Ev} (h:ltE y x=false):x.n*y.d≤y.n*x.d:=by
 unfold ltE at h
 rw[Bool.or_eq_false_iff] at h
 have:=of_decide_eq_false h.1
 omega
theorem FailT.same {c:Ck} {p:Pt} (V:V9 c) (h1:I64 c.tn) (h2:I64 c.td) (hp:p∈c.l):FailT c.s c.tn c.td p:=qcf h1 h2 V.t V.s (V.v.ok p hp) (V.k p hp).1 (V.k p hp).2
theorem V9.later {c:Ck} (V:V9 c) (h1:I64 c.tn) (h2:I64 c.td) {tn td:Int} (i1:I64 tn) (i2:I64 td) (ht:okB tn td=true) (hl:c.tn*td≤tn*c.td) (hd:∀ y∈c.ev,tn*y.d≤y.n*td):V9 { c with tn:=tn,td:=td }:=by
 have same:∀ p∈c.l,qaf c.s tn td p=qaf c.s c.tn c.td p:=fun p hp=>by
  have F:=FailT.same V h1 h2 hp
  have F':FailT c.s tn td p:=qcf i1 i2 ht V.s (V.v.ok p hp) (V.k p hp).1 (V.k p hp).2
  refine qji F F' V.t ht hl fun f=>?_
  obtain⟨q,_,y,hy⟩:=V.f.all p hp f
  obtain⟨j,_,hj⟩:=hy.at_
  have:=hd y (List.mem_of_getElem? hj)
  rw[hy.n,hy.d] at this
  exact this
 exact⟨ht,V.s,V.v,V.k,V.a,V.w,V.e,DueF.map (c:=c) same (fun p hp q _ ⟨y,h⟩=>⟨y,⟨h.id,h.lv,h.at_,h.k,by rw[same p hp];exact h.n,by rw[same p hp];exact h.d⟩⟩) V.f⟩
theorem V9.move_ok {c:Ck} (V:V9 c) (h1:I64 c.tn) (h2:I64 c.td) {tn td:Int} (i1:I64 tn) (i2:I64 td) (h:moE c tn td=0):V9 { c with tn:=tn,td:=td }:=by
 unfold moE at h
 split at h
 ·rename_i hu
  split at h
  ·cases h
  ·rename_i hb
   obtain⟨_,ht,hl⟩:=qfN hu
   have t0:=qcl ht
   refine V.later h1 h2 i1 i2 ht hl fun y hy=>?_
   obtain⟨j,hj⟩:=List.getElem?_of_mem hy
   obtain⟨x,hx⟩:=qah (l:=c.ev) (k:=0) (by have:=qai hj;omega)
   have le:=qtx (qiA V.a hx j y hj)
   have lt:tn*x.d<x.n*td:=by
    unfold qjF at hb
    rw[hx] at hb
    simpa using hb
   have px:=(V.a.ef.ok x (List.mem_of_getElem? hx)).pos
   have py:=(V.a.ef.ok y hy).pos
   exact qx7 (n:=x.n) (d:=x.d) (tn:=y.n) (td:=y.d) (m:=tn) (k:=td) px py (by omega) (by omega) le
 ·rename_i hu;exact (hu h).elim
theorem V9.failed_ok {c o:Ck} (V:V9 c) (h1:I64 c.tn) (h2:I64 c.td) {y:Ev} {p:Pt} (h:qdF c y p o):V9 o∧I64 o.tn∧I64 o.td∧c.tn*y.d≤y.n*c.td:=by
 obtain⟨hy,hp,hk,g,hg,rfl⟩:=h
 obtain⟨p0,hp0,f0,q0,_,hd0⟩:=V.ev hy
 have F0:=FailT.same V h1 h2 hp0
 obtain⟨k1,k2,k3,k4⟩:=F0.i.ok f0
 rw[← hd0.n,← hd0.d] at k1 k4
 rw[← hd0.n] at k2
 rw[← hd0.d] at k3
 have G:=V.gone_ok hg
 have same:g.tn=c.tn∧g.td=c.td:=by
  rcases hg with ⟨_,rfl⟩ | ⟨_,_,_,_,_,_,_,_,_,_,rfl⟩<;>exact⟨rfl,rfl⟩
 have sub:∀ z∈g.ev,z∈c.ev:=by
  rcases hg with ⟨_,rfl⟩ | ⟨_,_,_,y',_,_,_,hy',_,_,rfl⟩
  ·exact fun z hz=>hz
  ·obtain⟨_,pm,_⟩:=VA.without V.a hy'
   exact fun z hz=>pm.mem_iff.1 (List.mem_append_left _ hz)
 refine⟨G.later (by rw[same.1];exact h1) (by rw[same.2];exact h2) k2 k3 k1 (by rw[same.1,same.2];exact k4) fun z hz=>?_,k2,k3,k4⟩
 obtain⟨j,hj⟩:=List.getElem?_of_mem (sub z hz)
 exact qtx (qiA V.a hy j z hj)
end Go.Proofs.YtkjaanhddkkodaaGreat
