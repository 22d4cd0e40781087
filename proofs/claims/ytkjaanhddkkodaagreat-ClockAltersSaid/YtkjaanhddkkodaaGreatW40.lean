/-
  Joined: Ld, Lf, Lm, Lh. Conditions: none.
-/
import Derived.Test.YtkjaanhddkkodaaGreatW39
import Derived.Test.YtkjaanhddkkodaaGreatW18
import Derived.Test.YtkjaanhddkkodaaGreatW31
import Derived.Test.YtkjaanhddkkodaaGreatW24
namespace Go.Proofs.YtkjaanhddkkodaaGreat
set_option maxRecDepth 100000
open Go.RowKit
theorem qET {c:Ck} (h1:Pure Tryz.prog 75 #[qaa c.tn c.td] (iV (8))) :
 Fn 31 8 [qap c] (qat c) (.pv (iV (8))) 0 []:=
 Fz [] [Rf h1,.k]
  tI (Ai h1 tI)
abbrev qrC (c:Ck):Prop:=Pure Tryz.prog 75 #[qaa c.tn c.td] (iV (0))
theorem qEe {c:Ck} {n:Int} (h1:qrC c) (h2:Fn 44 1 [qaB 0 c.s] [(0,0,qal c.s)] (.pv (iV (n))) 0 []) (hne:(n !=0)=true) :
 Fn 31 8 [qap c] (qat c) (.pv (iV (8))) 0 []:=
 Fz [] [Rf h1,.k,Cf h2 [0],.t true]
  tI (Ai h1 (Co h2 [0] 9 (Ai hne tI)))
abbrev qsB (c:Ck):Prop:=Fn 44 1 [qaB 0 c.s] [(0,0,qal c.s)] (.pv (iV (0))) 0 []
theorem qDc {c:Ck} (h1:qrC c) (h2:qsB c) (h3:Fn 76 1 [qaL 0 c.x c.l] [(0,0,qam c.l)] (.pv (iV (8))) 0 []) :
 Fn 31 8 [qap c] (qat c) (.pv (iV (8))) 0 []:=
 Fz [] [Rf h1,.k,Cf h2 [0],.k,Cf h3 [1],.k]
  tI (Ai h1 (Co h2 [0] 9 (Co h3 [1] 9 tI)))
abbrev quo (c:Ck):Prop:=Fn 76 1 [qaL 0 c.x c.l] [(0,0,qam c.l)] (.pv (iV (0))) 0 []
theorem qEo {c:Ck} (h1:qrC c) (h2:qsB c) (h3:quo c) (h4:Fn 45 2 [qaL 0 c.x c.l,qaB 1 c.s] [(0,0,qam c.l),(1,0,qal c.s)] (.pv (.bool false)) 0 []) :
 Fn 31 8 [qap c] (qat c) (.pv (iV (8))) 0 []:=
 Fz [] [Rf h1,.k,Cf h2 [0],.k,Cf h3 [1],.k,Cf h4 [1,0],.k]
  tI (Ai h1 (Co h2 [0] 9 (Co h3 [1] 9 (Co h4 [1,0] 9 tI))))
abbrev qB5 (c:Ck):HpL:=[(0,0,zrI c.u),(1,0,zrB c.b),(2,0,zrI c.fr),(3,0,qas c.ev),(4,0,zrI c.wh)]
abbrev qw2 (c:Ck):Prop:=Fn 45 2 [qaL 0 c.x c.l,qaB 1 c.s] [(0,0,qam c.l),(1,0,qal c.s)] (.pv (.bool true)) 0 []
theorem qEx {c:Ck} (h1:qrC c) (h2:qsB c) (h3:quo c) (h4:qw2 c) (h5:Fn 77 5 [agA c.u c.b c.fr c.ev c.wh] (qB5 c) (.pv (iV (8))) 0 []) :
 Fn 31 8 [qap c] (qat c) (.pv (iV (8))) 0 []:=
 Fz [] [Rf h1,.k,Cf h2 [0],.k,Cf h3 [1],.k,Cf h4 [1,0],.k,Cf h5 [2,3,4,5,6],.k]
  tI (Ai h1 (Co h2 [0] 9 (Co h3 [1] 9 (Co h4 [1,0] 9 (Co h5 [2,3,4,5,6] 9 tI)))))
abbrev qxJ (c:Ck):Prop:=Fn 77 5 [agA c.u c.b c.fr c.ev c.wh] (qB5 c) (.pv (iV (0))) 0 []
theorem qB9 {c:Ck} (h1:qrC c) (h2:qsB c) (h3:quo c) (h4:qw2 c) (h5:qxJ c) (h6:((c.wh.length:Int) !=200)=true) :
 Fn 31 8 [qap c] (qat c) (.pv (iV (8))) 0 []:=
 Fz [] [Rf h1,.k,Cf h2 [0],.k,Cf h3 [1],.k,Cf h4 [1,0],.k,Cf h5 [2,3,4,5,6],.k,.t true]
  tI (Ai h1 (Co h2 [0] 9 (Co h3 [1] 9 (Co h4 [1,0] 9 (Co h5 [2,3,4,5,6] 9 (Ai h6 tI))))))
theorem qC2 {c:Ck} (h1:qrC c) (h2:qsB c) (h3:quo c) (h4:qw2 c) (h5:qxJ c) (h6:((c.wh.length:Int) !=200)=false) (h7:((c.ev.length:Int) !=(c.d.length:Int))=true) :
 Fn 31 8 [qap c] (qat c) (.pv (iV (8))) 0 []:=
 Fz [] [Rf h1,.k,Cf h2 [0],.k,Cf h3 [1],.k,Cf h4 [1,0],.k,Cf h5 [2,3,4,5,6],.k,.t false,.t true]
  tI (Ai h1 (Co h2 [0] 9 (Co h3 [1] 9 (Co h4 [1,0] 9 (Co h5 [2,3,4,5,6] 9 (Ai h6 (Ai h7 tI)))))))
abbrev qsk (j:Nat) (k:Nat):TmL:=[(1,.pp 8 0),(3,.pv (iV (j:Int))),(4,.pv (iV (k:Int)))]
theorem qp6 {c:Ck} {p:Pt} {j k:Nat} {n z:Int} (hk:c.l[k]?=some p) (hin:0≤(k:Int)∧(k:Int)<(c.l.length:Int)) (hlt:decide ((k:Int)<(c.l.length:Int))=true) (hw:Fn 39 1 [qaB 0 c.s,.pv (qag p.a p.b),.pv (qaa c.tn c.td)] [(0,0,qal c.s)] (.pv (.tuple #[qaa n z,.bool false])) 0 []) (hs:iV (IntKind.i64.wrap ((k:Int)+1))=iV (((k+1:Nat):Int))) {e:Exit} {tm2:TmL} {hp2:HpL}
 (r:Rl 8 8 31 0 133 9 ([(1,.pp 8 0),(3,.pv (iV (j:Int))),(4,.pv (iV ((k+1:Nat):Int)))]) (qbI 8 c) e tm2 hp2):Rl 8 8 31 0 133 9 (qsk j k) (qbI 8 c) e tm2 hp2:=
 RunsL.next [] 300 [.t true,.r (ptV p),Cf hw [0],.k,Re hs]
  (Ro (Ai hlt (Ai hin (Ai (qaO hk) (Co hw [0] 10 (Ai hs tI)))))) r
abbrev qwX (c:Ck) (n:Int) (p:Pt) (z:Int):Prop:=Fn 39 1 [qaB 0 c.s,.pv (qag p.a p.b),.pv (qaa c.tn c.td)] [(0,0,qal c.s)] (.pv (.tuple #[qaa n z,.bool true])) 0 []
theorem qv0 {c:Ck} {p:Pt} {j k:Nat} {n z:Int} (hk:c.l[k]?=some p) (hin:0≤(k:Int)∧(k:Int)<(c.l.length:Int)) (hlt:decide ((k:Int)<(c.l.length:Int))=true) (hw:qwX c n p z) (hj:decide ((j:Int)≥(c.d.length:Int))=true):Rl 8 8 31 0 133 9 (qsk j k) (qbI 8 c) (.ret) ([(2,.pv (iV 8))]) ([]):=
 RunsL.stop [] 300 [.t true,.r (ptV p),Cf hw [0],.k,.t true] (fun h=>by cases h)
  (Ro (Ai hlt (Ai hin (Ai (qaO hk) (Co hw [0] 10 (Ai hj tI))))))
theorem qt6 {c:Ck} {p q:Pt} {j k:Nat} {n z:Int} (hk:c.l[k]?=some p) (hin:0≤(k:Int)∧(k:Int)<(c.l.length:Int)) (hlt:decide ((k:Int)<(c.l.length:Int))=true) (hq:c.d[j]?=some q) (hiq:0≤(j:Int)∧(j:Int)<(c.d.length:Int)) (hw:qwX c n p z) (hj:decide ((j:Int)≥(c.d.length:Int))=false) (hne:(q.id !=p.id)=true):Rl 8 8 31 0 133 9 (qsk j k) (qbI 8 c) (.ret) ([(2,.pv (iV 8))]) ([]):=
 RunsL.stop [] 300 [.t true,.r (ptV p),Cf hw [0],.k,.t false,.r (iV q.id),.t true] (fun h=>by cases h)
  (Ro (Ai hlt (Ai hin (Ai (qaO hk) (Co hw [0] 10 (Ai hj (Ai hiq (Ai (qjd hq) (Ai hne tI)))))))))
theorem qpz {c:Ck} {p q:Pt} {j k:Nat} {n z e:Int} {y:Ev} (hk:c.l[k]?=some p) (hin:0≤(k:Int)∧(k:Int)<(c.l.length:Int)) (hlt:decide ((k:Int)<(c.l.length:Int))=true) (hq:c.d[j]?=some q) (hiq:0≤(j:Int)∧(j:Int)<(c.d.length:Int)) (hw:qwX c n p z) (hj:decide ((j:Int)≥(c.d.length:Int))=false) (hne:(q.id !=p.id)=false) (hf:Fn 78 5 [agA c.u c.b c.fr c.ev c.wh,.pv (qaJ q.a q.b)] (qB5 c) (.pv (.tuple #[qab y,iV (e)])) 0 []) (he:(e !=0)=true):Rl 8 8 31 0 133 9 (qsk j k) (qbI 8 c) (.ret) ([(2,.pv (iV 8))]) ([]):=
 RunsL.stop [] 300 [.t true,.r (ptV p),Cf hw [0],.k,.t false,.r (iV q.id),.t false,.r (qaJ q.a q.b),Cf hf [2,3,4,5,6],.t true] (fun h=>by cases h)
  (Ro (Ai hlt (Ai hin (Ai (qaO hk) (Co hw [0] 10 (Ai hj (Ai hiq (Ai (qjd hq) (Ai hne (Ai hiq (Ai (qdr hq) (Co hf [2,3,4,5,6] 11 (Ai he tI)))))))))))))
abbrev qsQ (c:Ck) (q:Pt) (y:Ev):Prop:=Fn 78 5 [agA c.u c.b c.fr c.ev c.wh,.pv (qaJ q.a q.b)] (qB5 c) (.pv (.tuple #[qab y,iV (0)])) 0 []
theorem qnV {c:Ck} {p q:Pt} {j k:Nat} {n z:Int} {y:Ev} (hk:c.l[k]?=some p) (hin:0≤(k:Int)∧(k:Int)<(c.l.length:Int)) (hlt:decide ((k:Int)<(c.l.length:Int))=true) (hq:c.d[j]?=some q) (hiq:0≤(j:Int)∧(j:Int)<(c.d.length:Int)) (hw:qwX c n p z) (hj:decide ((j:Int)≥(c.d.length:Int))=false) (hne:(q.id !=p.id)=false) (hf:qsQ c q y) (hk2:(y.k !=p.id)=true):Rl 8 8 31 0 133 9 (qsk j k) (qbI 8 c) (.ret) ([(2,.pv (iV 8))]) ([]):=
 RunsL.stop [] 300 [.t true,.r (ptV p),Cf hw [0],.k,.t false,.r (iV q.id),.t false,.r (qaJ q.a q.b),Cf hf [2,3,4,5,6],.k,.t true] (fun h=>by cases h)
  (Ro (Ai hlt (Ai hin (Ai (qaO hk) (Co hw [0] 10 (Ai hj (Ai hiq (Ai (qjd hq) (Ai hne (Ai hiq (Ai (qdr hq) (Co hf [2,3,4,5,6] 11 (Ai hk2 tI)))))))))))))
theorem qqo {c:Ck} {p q:Pt} {j k:Nat} {n z:Int} {y:Ev} (hk:c.l[k]?=some p) (hin:0≤(k:Int)∧(k:Int)<(c.l.length:Int)) (hlt:decide ((k:Int)<(c.l.length:Int))=true) (hq:c.d[j]?=some q) (hiq:0≤(j:Int)∧(j:Int)<(c.d.length:Int)) (hw:qwX c n p z) (hj:decide ((j:Int)≥(c.d.length:Int))=false) (hne:(q.id !=p.id)=false) (hf:qsQ c q y) (hk2:(y.k !=p.id)=false) (ht2:(!(y.n==n&&(y.d==z&&true)))=true):Rl 8 8 31 0 133 9 (qsk j k) (qbI 8 c) (.ret) ([(2,.pv (iV 8))]) ([]):=
 RunsL.stop [] 300 [.t true,.r (ptV p),Cf hw [0],.k,.t false,.r (iV q.id),.t false,.r (qaJ q.a q.b),Cf hf [2,3,4,5,6],.k,.t false,.t true] (fun h=>by cases h)
  (Ro (Ai hlt (Ai hin (Ai (qaO hk) (Co hw [0] 10 (Ai hj (Ai hiq (Ai (qjd hq) (Ai hne (Ai hiq (Ai (qdr hq) (Co hf [2,3,4,5,6] 11 (Ai hk2 (Ai ht2 tI))))))))))))))
theorem qrn {c:Ck} {p q:Pt} {j k:Nat} {n z:Int} {y:Ev} (hk:c.l[k]?=some p) (hin:0≤(k:Int)∧(k:Int)<(c.l.length:Int)) (hlt:decide ((k:Int)<(c.l.length:Int))=true) (hq:c.d[j]?=some q) (hiq:0≤(j:Int)∧(j:Int)<(c.d.length:Int)) (hw:qwX c n p z) (hj:decide ((j:Int)≥(c.d.length:Int))=false) (hne:(q.id !=p.id)=false) (hf:qsQ c q y) (hk2:(y.k !=p.id)=false) (ht2:(!(y.n==n&&(y.d==z&&true)))=false) (hs2:iV (IntKind.i64.wrap ((j:Int)+1))=iV (((j+1:Nat):Int))) (hs:iV (IntKind.i64.wrap ((k:Int)+1))=iV (((k+1:Nat):Int))) {e:Exit} {tm2:TmL} {hp2:HpL}
 (r:Rl 8 8 31 0 133 9 ([(1,.pp 8 0),(3,.pv (iV ((j+1:Nat):Int))),(4,.pv (iV ((k+1:Nat):Int)))]) (qbI 8 c) e tm2 hp2):Rl 8 8 31 0 133 9 (qsk j k) (qbI 8 c) e tm2 hp2:=
 RunsL.next [] 300 [.t true,.r (ptV p),Cf hw [0],.k,.t false,.r (iV q.id),.t false,.r (qaJ q.a q.b),Cf hf [2,3,4,5,6],.k,.t false,.t false,Re hs2,Re hs]
  (Ro (Ai hlt (Ai hin (Ai (qaO hk) (Co hw [0] 10 (Ai hj (Ai hiq (Ai (qjd hq) (Ai hne (Ai hiq (Ai (qdr hq) (Co hf [2,3,4,5,6] 11 (Ai hk2 (Ai ht2 (Ai hs2 (Ai hs tI)))))))))))))))) r
theorem qtm {c:Ck} {j k:Nat} (hge:decide ((k:Int)<(c.l.length:Int))=false):Rl 8 8 31 0 133 9 (qsk j k) (qbI 8 c) (.exit 0) ([(1,.pp 8 0),(3,.pv (iV (j:Int)))]) (qbI 8 c):=
 RunsL.stop [] 300 [.t false] (fun h=>by cases h)
  (Ro (Ai hge tI))
theorem qvC {c:Ck} (h1:qrC c) (h2:qsB c) (h3:quo c) (h4:qw2 c) (h5:qxJ c) (h6:((c.wh.length:Int) !=200)=false) (h7:((c.ev.length:Int) !=(c.d.length:Int))=false) (r0:Rl 8 8 31 0 133 9 ([(1,.pp 8 0),(3,.pv (iV ((0:Nat):Int))),(4,.pv (iV ((0:Nat):Int)))]) (qbI 8 c) (.ret) ([(2,.pv (iV 8))]) ([])) :
 Fn 31 8 [qap c] (qat c) (.pv (iV (8))) 0 []:=
 Fz [] [Rf h1,.k,Cf h2 [0],.k,Cf h3 [1],.k,Cf h4 [1,0],.k,Cf h5 [2,3,4,5,6],.k,.t false,.t false,Lf r0]
  tI (Ai h1 (Co h2 [0] 9 (Co h3 [1] 9 (Co h4 [1,0] 9 (Co h5 [2,3,4,5,6] 9 (Ai h6 (Ai h7 (Lo r0 [] tI))))))))
abbrev qFj (c:Ck) (j:Nat):Prop:=Rl 8 8 31 0 133 9 ([(1,.pp 8 0),(3,.pv (iV ((0:Nat):Int))),(4,.pv (iV ((0:Nat):Int)))]) (qbI 8 c) (.exit 0) ([(1,.pp 8 0),(3,.pv (iV (j:Int)))]) (qbI 8 c)
theorem qpw {c:Ck} {j:Nat} (h1:qrC c) (h2:qsB c) (h3:quo c) (h4:qw2 c) (h5:qxJ c) (h6:((c.wh.length:Int) !=200)=false) (h7:((c.ev.length:Int) !=(c.d.length:Int))=false) (r0:qFj c j) (hd:((j:Int) !=(c.d.length:Int))=true) :
 Fn 31 8 [qap c] (qat c) (.pv (iV (8))) 0 []:=
 Fz [] [Rf h1,.k,Cf h2 [0],.k,Cf h3 [1],.k,Cf h4 [1,0],.k,Cf h5 [2,3,4,5,6],.k,.t false,.t false,Lf r0,.t true]
  tI (Ai h1 (Co h2 [0] 9 (Co h3 [1] 9 (Co h4 [1,0] 9 (Co h5 [2,3,4,5,6] 9 (Ai h6 (Ai h7 (Lo r0 [] (Ai hd tI)))))))))
theorem qyO {c:Ck} {j:Nat} (h1:qrC c) (h2:qsB c) (h3:quo c) (h4:qw2 c) (h5:qxJ c) (h6:((c.wh.length:Int) !=200)=false) (h7:((c.ev.length:Int) !=(c.d.length:Int))=false) (r0:qFj c j) (hd:((j:Int) !=(c.d.length:Int))=false) :
 Fn 31 8 [qap c] (qat c) (.pv (iV (0))) 0 []:=
 Fz [] [Rf h1,.k,Cf h2 [0],.k,Cf h3 [1],.k,Cf h4 [1,0],.k,Cf h5 [2,3,4,5,6],.k,.t false,.t false,Lf r0,.t false]
  tI (Ai h1 (Co h2 [0] 9 (Co h3 [1] 9 (Co h4 [1,0] 9 (Co h5 [2,3,4,5,6] 9 (Ai h6 (Ai h7 (Lo r0 [] (Ai hd tI)))))))))
end Go.Proofs.YtkjaanhddkkodaaGreat

namespace Go.Proofs.YtkjaanhddkkodaaGreat
set_option maxRecDepth 100000
open Go.RowKit
theorem qkf (l:List Pt) (k:Nat) (h:k+1≤l.length):some (SV.row 54 3 (0+k+(l.length-(k+1))) ([]++((qbm l).drop (0*3)).take (k*3)++((qbm l).drop ((0+(k+1))*3)).take ((l.length-(k+1))*3)))=some (qaS (l.take k++l.drop (k+1))):=by
 have h1:=qiN l k
 have h2:=qjf l (k+1)
 rw[Nat.zero_add] at h1
 rw[h1,h2,qaS,qgo l k h,qbU,List.nil_append]
end Go.Proofs.YtkjaanhddkkodaaGreat

namespace Go.Proofs.YtkjaanhddkkodaaGreat
set_option maxRecDepth 100000
open Go.ChangeShapes Go.WideShapes Go.ChangeAt Go.RowKit Go.Joins Go.Deep
theorem qyN:Tryz.prog.cellsOf 54=3:=by kernel_rfl
theorem qs4:Tryz.prog.cellsOf 37=1:=by kernel_rfl
theorem qxw:Tryz.prog.cellsOf 26=1:=by kernel_rfl
theorem qAx:Tryz.prog.cellsOf 24=1:=by kernel_rfl
theorem qrb:Tryz.prog.cellsOf 39=11:=by kernel_rfl
theorem qwc:Tryz.prog.readableRec 39=true:=by kernel_rfl
theorem qxn:39<Tryz.prog.types.size:=of_decide_eq_true (by kernel_rfl)
section
variable {H:Type} {enc:TypeId×Value→H} {W:World} {base:Nat} {spare:Nat→Bool} {held:Bool}
theorem qid {P:Program} {t:TypeId} {f0 f1 f2 f3 f4:Field} {fuel:Nat} {cs:List Value} {x:DataW H×List MemPlace} (ht:P.underlying t=some (.struct #[f0,f1,f2,f3,f4])) (h:DataW.trod enc P W base spare held fuel t cs=some x) :
 ∃ y0 y1 y2 y3 y4 n,cs.length=P.cellsOf t∧DataW.trod enc P W base spare held n f0.type ((cs.drop f0.offset).take (P.cellsOf f0.type))=some y0∧DataW.trod enc P W base spare held n f1.type ((cs.drop f1.offset).take (P.cellsOf f1.type))=some y1∧
  DataW.trod enc P W base spare held n f2.type ((cs.drop f2.offset).take (P.cellsOf f2.type))=some y2∧DataW.trod enc P W base spare held n f3.type ((cs.drop f3.offset).take (P.cellsOf f3.type))=some y3∧DataW.trod enc P W base spare held n f4.type ((cs.drop f4.offset).take (P.cellsOf f4.type))=some y4:=by
 obtain⟨xs,n,_,rfl,hl,hlen,hf⟩:=DataW.trod_struct ht h
 match xs,hlen with
 | [y0,y1,y2,y3,y4],_=>exact⟨y0,y1,y2,y3,y4,n,hl,by simpa using hf 0 f0 rfl,by simpa using hf 1 f1 rfl,by simpa using hf 2 f2 rfl,by simpa using hf 3 f3 rfl,by simpa using hf 4 f4 rfl⟩
theorem qmU {fuel:Nat} {cs:List Value} {x:DataW H×List MemPlace} (h:DataW.trod enc Tryz.prog W base spare held fuel 37 cs=some x) :
 ∃ (u:Value) (l:List Pt),cs=[u]∧Rd W 3 u l.length (qbm l):=by
 rcases open_slice Tryz.underlying37 h with ⟨rfl,_⟩ | ⟨a,len,cap,m,n,D,Pl,rfl,_,hlc,_,hm,_,hi⟩
 ·exact⟨_,[],rfl,⟨rfl,none,0,rfl,Nat.le_refl _,fun j v hv=>by simp[qbm] at hv⟩⟩
 have hlm:len≤m:=by rw[hm];split<;>omega
 have each:∀ i,i<len→∃ p:Pt,W.cell? (a.add (i*3))=some (iV p.id)∧W.cell? (a.add (i*3+1))=some (iV p.a)∧W.cell? (a.add (i*3+2))=some (iV p.b):=by
  intro i hil
  obtain⟨cs',hc,ht⟩:=hi i (by omega)
  rw[qyN] at hc
  obtain⟨y0,y1,n',_,hlen,t0,t1⟩:=trod_struct2 Tryz.underlying54 ht
  obtain⟨z0,z1,n2,_,hlen2,s0,s1⟩:=trod_struct2 Tryz.underlying52 t1
  obtain⟨_,hcl,hat⟩:=World.cells?_some hc
  match cs',hcl with
  | [c0,c1,c2],_=>
   obtain⟨pi,e0,_,w0⟩:=DataW.trod_int Tryz.underlying3 t0
   obtain⟨pa,e1,_,w1⟩:=DataW.trod_int Tryz.underlying3 s0
   obtain⟨pb,e2,_,w2⟩:=DataW.trod_int Tryz.underlying3 s1
   simp[qAT,qzC] at e0 e1 e2
   refine⟨⟨pi,pa,pb⟩,?_,?_,?_⟩
   ·have:=hat 0 (by omega);rw[add_add] at this;simpa [e0] using this
   ·have:=hat 1 (by omega);rw[add_add] at this;simpa [e1] using this
   ·have:=hat 2 (by omega);rw[add_add] at this;simpa [e2] using this
 haveI:Inhabited Pt:=⟨⟨0,0,0⟩⟩
 obtain⟨f,hf⟩:=choose_lt (α:=Pt) each
 refine⟨_,(List.range len).map f,rfl,⟨qba _,some a,cap,by simp,by simpa using hlc,fun j v hv=>?_⟩⟩
 obtain⟨hk,he⟩:=ql5 f len j v hv
 obtain⟨c0,c1,c2⟩:=hf _ hk
 have hcell:W.cell? (a.add j)=some v:=by
  have h3:j%3=0∨j%3=1∨j%3=2:=by omega
  have e:j=j/3*3+j%3:=by omega
  rcases h3 with e3 | e3 | e3<;>rw[e3] at he e<;>rw[e]<;>simp at he<;>subst he
  ·exact c0
  ·exact c1
  ·exact c2
 obtain⟨b,off,spot⟩:=a
 have hs:spot=none:=by simpa [Addr.add] using World.cell?_spot (hf 0 (by omega)).1
 subst hs
 exact⟨b,off,rfl,by rw[← Go.WideShapes.add_plain];exact hcell⟩
abbrev ckR (c:Ck):List (TypeId×Nat×Nat×List Value):=[(57,3,c.s.length,qbm c.s),(94,3,c.l.length,qbm c.l),(3,1,c.u.length,ziV c.u),(4,1,c.b.length,zbV c.b),(3,1,c.fr.length,ziV c.fr),(62,5,c.ev.length,qaK c.ev),(3,1,c.wh.length,ziV c.wh),(54,3,c.d.length,qbm c.d)]
theorem qlX {r:Reach} {b0:Nat} {v:Value} {d:DataW H} {p:List MemPlace} (hv:Value.okWide Tryz.prog W r b0 39 v) (h:DataW.Trod enc Tryz.prog W base spare held 39 v d p) :
 ∃ (c:Ck) (u0 u1 u2 u3 u4 u5 u6 u7:Value),v=.agg #[iV c.tn,iV c.td,u0,iV c.x,u1,u2,u3,u4,u5,u6,u7]∧ZIns W [u0,u1,u2,u3,u4,u5,u6,u7] (ckR c)∧I64 c.tn∧I64 c.td∧∀ y∈c.ev,EvI y:=by
 obtain⟨cs,rfl,hsz⟩:=okWide_struct Tryz.underlying39 hv
 obtain⟨fuel,hf⟩:=h
 obtain⟨y0,y1,y2,y3,y4,n,hlen,h0,h1,h2,h3,h4⟩:=qid Tryz.underlying39 hf
 obtain⟨z0,z1,n1,_,_,a0,a1⟩:=trod_struct2 Tryz.underlying23 h0
 obtain⟨tn,e0,_,w0⟩:=DataW.trod_int Tryz.underlying2 a0
 obtain⟨td,e1,_,w1⟩:=DataW.trod_int Tryz.underlying2 a1
 obtain⟨z2,n2,_,_,b0⟩:=trod_struct1 Tryz.underlying26 h1
 obtain⟨u0,s,c0,r0,_⟩:=qjQ b0
 obtain⟨z3,z4,n3,_,_,d0,d1⟩:=trod_struct2 Tryz.underlying29 h2
 obtain⟨x,e2,_,_⟩:=DataW.trod_int Tryz.underlying3 d0
 obtain⟨u1,l,c1,r1⟩:=qmA d1
 obtain⟨z5,z6,z7,n4,_,_,k0,k1,k2⟩:=trod_struct3 Tryz.underlying36 h3
 obtain⟨x0,x1,x2,n5,_,_,g0,g1,g2⟩:=trod_struct3 Tryz.underlying33 k0
 obtain⟨u2,lu,c2,r2,_⟩:=qd3 g0
 obtain⟨u3,lb,c3,r3⟩:=qi1 g1
 obtain⟨u4,lf,c4,r4,_⟩:=qd3 g2
 obtain⟨u5,le,c5,r5,w5⟩:=qpj k1
 obtain⟨u6,lw,c6,r6,_⟩:=qd3 k2
 obtain⟨u7,ld,c7,r7⟩:=qmU h4
 refine⟨⟨tn,td,s,x,l,lu,lb,lf,le,lw,ld⟩,u0,u1,u2,u3,u4,u5,u6,u7,?_,.cons r0 (qeN s) (.cons r1 (qeN l) (.cons r2 (qjL lu) (.cons r3 (qyb lb) (.cons r4 (qjL lf) (.cons r5 (qnC le) (.cons r6 (qjL lw) (.cons r7 (qeN ld) .nil))))))),qBy w0,qBy w1,w5⟩
 rw[qxw,qAx] at c0
 rw[qu1,qjE] at c1
 rw[qAT,qjE] at e2
 rw[qsq,qzy] at e0 e1
 rw[qCE] at c2 c4 c6
 rw[qCj] at c3
 rw[qCk] at c5
 rw[qDP] at c2 c3 c4
 rw[qCM] at c2 c3 c4 c5 c6
 rw[qs4] at c7
 have hs:cs.size=11:=hsz.trans qrb
 obtain⟨L⟩:=cs
 match L,hs with
 | [v0,v1,v2,v3,v4,v5,v6,v7,v8,v9,v10],_=>
  simp[Value.cells] at c0 c1 c2 c3 c4 c5 c6 c7 e0 e1 e2
  rw[c0,c1,c2,c3,c4,c5,c6,c7,e0,e1,e2]
end
theorem qrG {W:World} {c:Ck} {u0 u1 u2 u3 u4 u5 u6 u7:Value} {us:List Value} (h:ZIns W [u0,u1,u2,u3,u4,u5,u6,u7] (ckR c)):SV.is (qky (u0::u1::u2::u3::u4::u5::u6::u7::us)) (qap c) (.agg #[iV c.tn,iV c.td,u0,iV c.x,u1,u2,u3,u4,u5,u6,u7]):=by
 match h with
 | .cons h0 _ (.cons h1 _ (.cons h2 _ (.cons h3 _ (.cons h4 _ (.cons h5 _ (.cons h6 _ (.cons h7 _ .nil)))))))=>
 exact⟨[iV c.tn,iV c.td,u0,iV c.x,u1,u2,u3,u4,u5,u6,u7],⟨rfl,rfl,⟨rfl,h0.zsl⟩,rfl,⟨rfl,h1.zsl⟩,⟨rfl,h2.zsl⟩,⟨rfl,h3.zsl⟩,⟨rfl,h4.zsl⟩,⟨rfl,h5.zsl⟩,⟨rfl,h6.zsl⟩,⟨rfl,h7.zsl⟩,tI⟩,rfl⟩
theorem ZIns.snoc {W:World} {us:List Value} {rs:List (TypeId×Nat×Nat×List Value)} (h:ZIns W us rs) {u:Value} {e:TypeId} {es n:Nat} {xs:List Value} (h1:Rd W es u n xs) (h2:∀ v∈xs,v.oneCell'=true):ZIns W (us++[u]) (rs++[(e,es,n,xs)]):=by
 induction h with
 | nil=>exact .cons h1 h2 .nil
 | cons a b _ ih=>exact .cons a b ih
end Go.Proofs.YtkjaanhddkkodaaGreat

namespace Go.Proofs.YtkjaanhddkkodaaGreat
set_option maxRecDepth 100000
open Go.RowKit
theorem qxt {s:List Pt} {n d:Int} {c:Pt} (hn:I64 n) (hd:I64 d) (ht:okB n d=true) (hs:Val s) (hc:qce c.a c.b=true) (ha:∃ q∈s,q.id=c.a) (hb:∃ q∈s,q.id=c.b) :
 Fn 39 1 [qaB 0 s,.pv (qag c.a c.b),.pv (qaa n d)] [(0,0,qal s)] (.pv (.tuple #[qaa (qae s n d c).1 (qae s n d c).2.1,.bool (qae s n d c).2.2])) 0 []:=by
 have F:=(qbv hn hd ht hs hc ha hb).f
 obtain⟨q,hq,ea⟩:=ha
 obtain⟨p,hp,eb⟩:=hb
 have e1:qdb s c.a=q:=by rw[← ea];exact qct hs hq
 have e2:qdb s c.b=p:=by rw[← eb];exact qct hs hp
 rw[e1,e2] at F
 obtain⟨j,hj,rfl⟩:=List.getElem_of_mem hq
 obtain⟨i,hi,rfl⟩:=List.getElem_of_mem hp
 exact wn9 (hg:=List.getElem?_eq_getElem hi) (hq:=List.getElem?_eq_getElem hj) (hi:=qao hi) (hj:=qao hj) (ha:=qma hs (List.getElem?_eq_getElem hi) eb) (hb:=qma hs (List.getElem?_eq_getElem hj) ea) (hl:=F)
structure DueOk (c:Ck) (p q:Pt) (y:Ev):Prop where
 id:q.id=p.id
 lv:Live c.u c.b q.a q.b
 at_:∃ j:Nat,c.wh[q.a.toNat]?=some (j:Int)∧c.ev[j]?=some y
 k:y.k=p.id
 n:y.n=(qae c.s c.tn c.td p).1
 d:y.d=(qae c.s c.tn c.td p).2.1
def DueF (c:Ck):List Pt→List Pt→Prop
 | [],d=>d=[]
 | p::l,d=>if (qae c.s c.tn c.td p).2.2=true then ∃ q r,d=q::r∧(∃ y,DueOk c p q y)∧DueF c l r else DueF c l d
structure V9 (c:Ck):Prop where
 t:okB c.tn c.td=true
 s:Val c.s
 v:V8 c.x c.l
 k:qcL c.l c.s
 a:VA c.u c.b c.fr c.ev c.wh
 w:c.wh.length=200
 e:c.ev.length=c.d.length
 f:DueF c c.l c.d
structure S9 (c:Ck):Prop where
 tn:I64 c.tn
 td:I64 c.td
 l:c.l.length≤210
 d:c.d.length≤210
 a:ASm c.u c.b c.fr c.ev c.wh
noncomputable def qne (c:Ck):Int:=open Classical in if V9 c then 0 else 8
theorem qdw {α:Type} {l:List α} {k:Nat} {p:α} (h:l[k]?=some p):l.drop k=p::l.drop (k+1):=by
 obtain⟨h1,h2⟩:=List.getElem?_eq_some_iff.1 h
 rw[← h2]
 exact List.drop_eq_getElem_cons h1
abbrev qxk (j k:Nat):List (Nat×SV):=[(1,.pp 8 0),(3,.pv (iV (j:Int))),(4,.pv (iV (k:Int)))]
abbrev qFs (j:Nat):List (Nat×SV):=[(1,.pp 8 0),(3,.pv (iV (j:Int)))]
theorem qry {c:Ck} (S:S9 c) (ht:okB c.tn c.td=true) (hs:Val c.s) (hv:V8 c.x c.l) (hk:qcL c.l c.s) (ha:VA c.u c.b c.fr c.ev c.wh):∀ (n k j:Nat),k+n=c.l.length→j≤c.d.length→
 (DueF c (c.l.drop k) (c.d.drop j)∧Rl 8 8 31 0 133 9 (qxk j k) (qbI 8 c) (.exit 0) (qFs c.d.length) (qbI 8 c))∨
 (¬ DueF c (c.l.drop k) (c.d.drop j)∧Rl 8 8 31 0 133 9 (qxk j k) (qbI 8 c) .ret [(2,.pv (iV 8))] [])∨
 (¬ DueF c (c.l.drop k) (c.d.drop j)∧∃ m:Nat,m≠c.d.length∧Rl 8 8 31 0 133 9 (qxk j k) (qbI 8 c) (.exit 0) (qFs m) (qbI 8 c)):=by
 intro n
 induction n with
 | zero=>
  intro k j hkn hj
  have r:=qtm (c:=c) (k:=k) (j:=j) (df (by omega))
  rw[List.drop_eq_nil_of_le (show c.l.length≤k by omega)]
  by_cases e:j=c.d.length
  ·subst e
   exact Or.inl ⟨List.drop_length,r⟩
  ·refine Or.inr (Or.inr ⟨fun h=>?_,j,e,r⟩)
   have h':c.d.drop j=[]:=h
   have:=List.drop_eq_nil_iff.1 h'
   omega
 | succ n ih=>
  intro k j hkn hj
  have hlk:k<c.l.length:=by omega
  obtain⟨p,hp⟩:=qah hlk
  have hmem:=List.mem_of_getElem? hp
  have W:=qxt S.tn S.td ht hs (hv.ok p hmem) (hk p hmem).1 (hk p hmem).2
  have hl:=S.l
  have hd':=S.d
  have hdr:=qdw hp
  have lk:decide ((k:Int)<(c.l.length:Int))=true:=dt (by omega)
  rw[hdr]
  cases hf:(qae c.s c.tn c.td p).2.2
  ·rw[hf] at W
   have e:DueF c (p::c.l.drop (k+1)) (c.d.drop j)=DueF c (c.l.drop (k+1)) (c.d.drop j):=by
    show (if (qae c.s c.tn c.td p).2.2=true then _ else _)=_
    rw[if_neg (by rw[hf];decide)]
   rw[e]
   have st:=fun {ex:Exit} {tm2:List (Nat×SV)} {hp2:List (Nat×Nat×SV)} (r:Rl 8 8 31 0 133 9 (qxk j (k+1)) (qbI 8 c) ex tm2 hp2)=>qp6 (c:=c) (j:=j) (hk:=hp) (hin:=qao hlk) (hlt:=lk) (hw:=W) (hs:=qau (by omega)) (r:=r)
   rcases ih (k+1) j (by omega) hj with ⟨h1,r⟩ | ⟨h1,r⟩ | ⟨h1,m,h2,r⟩
   ·exact Or.inl ⟨h1,st r⟩
   ·exact Or.inr (Or.inl ⟨h1,st r⟩)
   ·exact Or.inr (Or.inr ⟨h1,m,h2,st r⟩)
  ·rw[hf] at W
   have e:DueF c (p::c.l.drop (k+1)) (c.d.drop j)=(∃ q r,c.d.drop j=q::r∧(∃ y,DueOk c p q y)∧DueF c (c.l.drop (k+1)) r):=by
    show (if (qae c.s c.tn c.td p).2.2=true then _ else _)=_
    rw[if_pos hf]
   rw[e]
   by_cases hjd:j<c.d.length
   ·obtain⟨q,hq⟩:=qah hjd
    have hdq:=qdw hq
    rw[hdq]
    have nj:decide ((j:Int)≥(c.d.length:Int))=false:=df (by omega)
    have bad:(¬ ∃ y,DueOk c p q y)→¬ ∃ q' r,q::c.d.drop (j+1)=q'::r∧(∃ y,DueOk c p q' y)∧DueF c (c.l.drop (k+1)) r:=by
     rintro h ⟨q',r,e1,e2,_⟩
     cases e1
     exact h e2
    by_cases hid:q.id=p.id
    ·have nid:(q.id !=p.id)=false:=by simp[hid]
     by_cases hlv:Live c.u c.b q.a q.b
     ·obtain⟨w,y,hw1,hy,_,_⟩:=VA.find ha hlv
      have F:=qk8 ha hlv hw1 hy
      have uq:∀ y',DueOk c p q y'→y'=y:=by
       rintro y' ⟨_,_,⟨w',h1,h2⟩,_,_,_⟩
       rw[hw1] at h1
       have e1:(w:Int)=(w':Int):=Option.some.inj h1
       have e2:w=w':=by omega
       subst e2
       rw[hy] at h2
       exact (Option.some.inj h2).symm
      by_cases hyk:y.k=p.id
      ·have nk:(y.k !=p.id)=false:=by simp[hyk]
       by_cases ht2:y.n=(qae c.s c.tn c.td p).1∧y.d=(qae c.s c.tn c.td p).2.1
       ·have nt:(!(y.n==(qae c.s c.tn c.td p).1&&(y.d==(qae c.s c.tn c.td p).2.1&&true)))=false:=by simp[ht2.1,ht2.2]
        have ok:∃ y,DueOk c p q y:=⟨y,hid,hlv,⟨w,hw1,hy⟩,hyk,ht2.1,ht2.2⟩
        have e2:(∃ q' r,q::c.d.drop (j+1)=q'::r∧(∃ y,DueOk c p q' y)∧DueF c (c.l.drop (k+1)) r)↔DueF c (c.l.drop (k+1)) (c.d.drop (j+1)):=by
         constructor
         ·rintro⟨q',r,e1,_,e3⟩
          cases e1
          exact e3
         ·exact fun h=>⟨q,_,rfl,ok,h⟩
        rw[e2]
        have st:=fun {ex:Exit} {tm2:List (Nat×SV)} {hp2:List (Nat×Nat×SV)} (r:Rl 8 8 31 0 133 9 (qxk (j+1) (k+1)) (qbI 8 c) ex tm2 hp2)=>qrn (c:=c) (j:=j) (hk:=hp) (hin:=qao hlk) (hlt:=lk) (hw:=W) (hj:=nj) (hq:=hq) (hiq:=qao hjd) (hne:=nid) (hf:=F) (hk2:=nk) (ht2:=nt) (hs2:=qau (by omega)) (hs:=qau (by omega)) (r:=r)
        rcases ih (k+1) (j+1) (by omega) (by omega) with ⟨h1,r⟩ | ⟨h1,r⟩ | ⟨h1,m,h2,r⟩
        ·exact Or.inl ⟨h1,st r⟩
        ·exact Or.inr (Or.inl ⟨h1,st r⟩)
        ·exact Or.inr (Or.inr ⟨h1,m,h2,st r⟩)
       ·have nt:(!(y.n==(qae c.s c.tn c.td p).1&&(y.d==(qae c.s c.tn c.td p).2.1&&true)))=true:=by
         rw[Bool.not_eq_true',Bool.and_true,Bool.and_eq_false_iff]
         by_cases h1:y.n=(qae c.s c.tn c.td p).1
         ·exact Or.inr (by simpa using fun h2=>ht2 ⟨h1,h2⟩)
         ·exact Or.inl (by simpa using h1)
        refine Or.inr (Or.inl ⟨bad ?_,qqo (c:=c) (hk:=hp) (hin:=qao hlk) (hlt:=lk) (hw:=W) (hj:=nj) (hq:=hq) (hiq:=qao hjd) (hne:=nid) (hf:=F) (hk2:=nk) (ht2:=nt)⟩)
        rintro⟨y',h⟩
        have:=uq y' h
        subst this
        exact ht2 ⟨h.n,h.d⟩
      ·refine Or.inr (Or.inl ⟨bad ?_,qnV (c:=c) (hk:=hp) (hin:=qao hlk) (hlt:=lk) (hw:=W) (hj:=nj) (hq:=hq) (hiq:=qao hjd) (hne:=nid) (hf:=F) (hk2:=by simpa using hyk)⟩)
       rintro⟨y',h⟩
       have:=uq y' h
       subst this
       exact hyk h.k
     ·have F:=qlQ ha hlv
      refine Or.inr (Or.inl ⟨bad (fun ⟨y,h⟩=>hlv h.lv),qpz (c:=c) (y:=Ev.mk 0 0 0 0 0) (e:=6) (hk:=hp) (hin:=qao hlk) (hlt:=lk) (hw:=W) (hj:=nj) (hq:=hq) (hiq:=qao hjd) (hne:=nid) (hf:=F) (he:=by decide)⟩)
    ·exact Or.inr (Or.inl ⟨bad (fun ⟨y,h⟩=>hid h.id),qt6 (c:=c) (hk:=hp) (hin:=qao hlk) (hlt:=lk) (hw:=W) (hj:=nj) (hq:=hq) (hiq:=qao hjd) (hne:=by simpa using hid)⟩)
   ·have e3:c.d.drop j=[]:=List.drop_eq_nil_of_le (by omega)
    rw[e3]
    refine Or.inr (Or.inl ⟨?_,qv0 (c:=c) (hk:=hp) (hin:=qao hlk) (hlt:=lk) (hw:=W) (hj:=dt (by omega))⟩)
    rintro⟨q,r,e4,_⟩
    cases e4
theorem qdx {c:Ck} (S:S9 c):Fn 31 8 [qap c] (qat c) (.pv (iV (qne c))) 0 []:=by
 have bad:(¬ V9 c)→qne c=8:=fun h=>by unfold qne;rw[if_neg h]
 have h2:=qf7 c.s
 have h3:=ql9 c.x c.l
 by_cases ht:okB c.tn c.td=true
 ·have h1:=qhD S.tn S.td ht
  by_cases hs:Val c.s
  ·rw[qcu.2 hs] at h2
   by_cases hv:V8 c.x c.l
   ·rw[qdq hv] at h3
    have h4:=qr1 c.x S.l hs
    by_cases hk:qcL c.l c.s
    ·rw[qdV.2 hk] at h4
     by_cases ha:VA c.u c.b c.fr c.ev c.wh
     ·have h5:=qee ha
      by_cases hw:c.wh.length=200
      ·by_cases he:c.ev.length=c.d.length
       ·have w:((c.wh.length:Int) !=200)=false:=by simp[hw]
        have d0:((c.ev.length:Int) !=(c.d.length:Int))=false:=by simp[he]
        rcases qry S ht hs hv hk ha c.l.length 0 0 (Nat.zero_add _) (Nat.zero_le _) with ⟨hf,r⟩ | ⟨hf,r⟩ | ⟨hf,m,hm,r⟩
        ·have e0:qne c=0:=by unfold qne;rw[if_pos ⟨ht,hs,hv,hk,ha,hw,he,hf⟩]
         rw[e0]
         exact qyO (j:=c.d.length) (h1:=h1) (h2:=h2) (h3:=h3) (h4:=h4) (h5:=h5) (h6:=w) (h7:=d0) (r0:=r) (hd:=by simp)
        ·rw[bad fun v=>hf v.f]
         exact qvC (h1:=h1) (h2:=h2) (h3:=h3) (h4:=h4) (h5:=h5) (h6:=w) (h7:=d0) (r0:=r)
        ·rw[bad fun v=>hf v.f]
         exact qpw (j:=m) (h1:=h1) (h2:=h2) (h3:=h3) (h4:=h4) (h5:=h5) (h6:=w) (h7:=d0) (r0:=r) (hd:=by simp;omega)
       ·rw[bad fun v=>he v.e]
        exact qC2 (h1:=h1) (h2:=h2) (h3:=h3) (h4:=h4) (h5:=h5) (h6:=by simp[hw]) (h7:=by simp;omega)
      ·rw[bad fun v=>hw v.w]
       exact qB9 (h1:=h1) (h2:=h2) (h3:=h3) (h4:=h4) (h5:=h5) (h6:=by simp;omega)
     ·rw[bad fun v=>ha v.a]
      exact qEx (h1:=h1) (h2:=h2) (h3:=h3) (h4:=h4) (h5:=qiM S.a ha)
    ·rw[bad fun v=>hk v.k]
     rw[qfm hk] at h4
     exact qEo (h1:=h1) (h2:=h2) (h3:=h3) (h4:=h4)
   ·rw[bad fun v=>hv v.v]
    rw[qbx hv] at h3
    exact qDc (h1:=h1) (h2:=h2) (h3:=h3)
  ·rw[bad fun v=>hs v.s]
   exact qEe (h1:=h1) (h2:=h2) (hne:=by
    have:qfq c.s≠0:=fun e=>hs (qcu.1 e)
    simpa using this)
 ·rw[bad fun v=>ht v.t]
  exact qET (h1:=qfV S.tn S.td ht)
end Go.Proofs.YtkjaanhddkkodaaGreat
