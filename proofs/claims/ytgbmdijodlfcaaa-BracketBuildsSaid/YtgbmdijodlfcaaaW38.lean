/-
  Joined: Qk, Qn, Ql. Conditions: none.
-/
import Derived.Test.YtgbmdijodlfcaaaQi
import Derived.Test.YtgbmdijodlfcaaaW21
import Derived.Test.YtgbmdijodlfcaaaZj
import Derived.Test.YtgbmdijodlfcaaaW26
namespace Go.Proofs.Ytgbmdijodlfcaaa
set_option maxRecDepth 100000
open Go.RowKit
theorem qkn (w:Bool):(w==w)=true:=by simp
theorem qiD {b:Br} {l:List Int} {s:List Pt} {tn td pz:Int} (hg:Fn 19 1 [qaw 0 s] [(0,0,qai s)] (.pv (.bool true)) 0 []) :
 Fn 4 4 [qaw 0 s,.pv (qab tn td),.ls 1 l.length,brS 2 3 b,.pv (iV (pz))] [(0,0,qai s),(1,0,zrI l),(2,0,zrI b.p),(3,0,zrI b.w)] (.pv (.bool true)) 0 []:=
 Fz [] [Cf hg [0]]
  tI (Co hg [0] 7 tI)
abbrev qso (s:List Pt):Prop:=Fn 19 1 [qaw 0 s] [(0,0,qai s)] (.pv (.bool false)) 0 []
theorem qk9 {b:Br} {l:List Int} {s:List Pt} {tn td pz:Int} (hg:qso s) (hn:decide ((l.length:Int)>70)=true) :
 Fn 4 4 [qaw 0 s,.pv (qab tn td),.ls 1 l.length,brS 2 3 b,.pv (iV (pz))] [(0,0,qai s),(1,0,zrI l),(2,0,zrI b.p),(3,0,zrI b.w)] (.pv (.bool true)) 0 []:=
 Fz [] [Cf hg [0],.t true]
  tI (Co hg [0] 7 (Ai hn tI))
theorem qoB {b:Br} {l:List Int} {s:List Pt} {tn td pz:Int} (hg:qso s) (hn:decide ((l.length:Int)>70)=false) (hg2:Fn 20 2 [brS 0 1 b] [(0,0,zrI b.p),(1,0,zrI b.w)] (.pv (.bool true)) 0 []) :
 Fn 4 4 [qaw 0 s,.pv (qab tn td),.ls 1 l.length,brS 2 3 b,.pv (iV (pz))] [(0,0,qai s),(1,0,zrI l),(2,0,zrI b.p),(3,0,zrI b.w)] (.pv (.bool true)) 0 []:=
 Fz [] [Cf hg [0],.t false,Cf hg2 [2,3]]
  tI (Co hg [0] 7 (Ai hn (Co hg2 [2,3] 7 tI)))
theorem qlL {b o:Br} {l m:List Int} {s:List Pt} {x tn td e e1 e2 e3 e4 pz:Int} {w:Bool} (hg:qso s) (hn:decide ((l.length:Int)>70)=false) (hg2:Fn 20 2 [brS 0 1 b] [(0,0,zrI b.p),(1,0,zrI b.w)] (.pv (.bool false)) 0 []) (htw:Fn 21 2 [brS 0 1 b] [(0,0,zrI b.p),(1,0,zrI b.w)] (brS 2 3 b) 2 [(2,0,zrI b.p),(3,0,zrI b.w)]) (n1:0+l.length≤1000000) (hb1:Fn 9 2 [qaw 0 s,.pv (qab tn td),.ls 1 l.length] [(0,0,qai s),(1,0,zrI l)] (.tu [qoZ 2 3 o,.one (.pv (iV e))]) 2 [(2,0,zrI o.p),(3,0,zrI o.w)]) (hb2:Fn 22 2 [qaw 0 s,.pv (qab tn td),.ls 1 (0+l.length)] [(0,0,qai s),(1,0,.row 3 1 (0+l.length) ([]++ziV l))] (.tu [qoZ 2 3 o,.one (.pv (iV e))]) 2 [(2,0,zrI o.p),(3,0,zrI o.w)]) (hw1:Fn 12 2 [brS 0 1 b] [(0,0,zrI b.p),(1,0,zrI b.w)] (.pv (.tuple #[iV x,iV e2])) 0 []) (hw2:Fn 23 2 [brS 0 1 b] [(0,0,zrI b.p),(1,0,zrI b.w)] (.pv (.tuple #[iV x,iV e2])) 0 []) (hp1:Fn 13 2 [brS 0 1 b,.pv (iV (pz))] [(0,0,zrI b.p),(1,0,zrI b.w)] (.tu [.one (.ls 2 m.length),.one (.pv (iV e3))]) 1 [(2,0,zrI m)]) (hp2:Fn 24 2 [brS 0 1 b,.pv (iV (pz))] [(0,0,zrI b.p),(1,0,zrI b.w)] (.tu [.one (.ls 2 m.length),.one (.pv (iV e3))]) 1 [(2,0,zrI m)]) (hr1:Fn 15 3 [brS 0 1 b,qaw 2 s,.pv (qab tn td)] [(0,0,zrI b.p),(1,0,zrI b.w),(2,0,qai s)] (.pv (.tuple #[.bool w,iV e4])) 0 []) (hr2:Fn 25 3 [brS 0 1 b,qaw 2 s,.pv (qab tn td)] [(0,0,zrI b.p),(1,0,zrI b.w),(2,0,qai s)] (.pv (.tuple #[.bool w,iV e4])) 0 []) (hs1:Fn 17 4 [brS 0 1 o,brS 2 3 o] [(0,0,zrI o.p),(1,0,zrI o.w),(2,0,zrI o.p),(3,0,zrI o.w)] (.pv (.bool true)) 0 []) (hc1:Fn 16 2 [brS 0 1 b] [(0,0,zrI b.p),(1,0,zrI b.w)] (.pv (iV (e1))) 0 []) (hc2:Fn 26 2 [brS 0 1 b] [(0,0,zrI b.p),(1,0,zrI b.w)] (.pv (iV (e1))) 0 []) (hs2:Fn 27 2 [.ls 0 m.length,.ls 1 m.length] [(0,0,zrI m),(1,0,zrI m)] (.pv (.bool true)) 0 []) (hs3:Fn 17 4 [brS 0 1 b,brS 2 3 b] [(0,0,zrI b.p),(1,0,zrI b.w),(2,0,zrI b.p),(3,0,zrI b.w)] (.pv (.bool true)) 0 []) (hs4:Fn 27 2 [.ls 0 l.length,.ls 1 (0+l.length)] [(0,0,zrI l),(1,0,.row 3 1 (0+l.length) ([]++ziV l))] (.pv (.bool true)) 0 []) :
 Fn 4 4 [qaw 0 s,.pv (qab tn td),.ls 1 l.length,brS 2 3 b,.pv (iV (pz))] [(0,0,qai s),(1,0,zrI l),(2,0,zrI b.p),(3,0,zrI b.w)] (.pv (.bool true)) 0 []:=
 qcP 600 [] [Cf hg [0],.t false,Cf hg2 [2,3],Cf htw [2,3],Cf hb1 [0,1],Cf hb2 [0,10],Cf hw1 [7,8],Cf hw1 [2,3],Cf hp1 [7,8],Cf hp1 [2,3],Cf hr1 [7,8,0],Cf hr1 [2,3,0],.md,Cf hs1 [12,13,15,16],.t true,Cf hc1 [7,8],Cf hc1 [2,3],.t true,.t true,.t true,Cf hs2 [18,19],.t true,.t true,.t true,Cf hs3 [7,8,2,3],Cf hs4 [1,10]]
  tI (Co hg [0] 7 (Ai hn (Co hg2 [2,3] 7 (Co htw [2,3] 7 (Ai n1 (Co hb1 [0,1] 12 (Co hb2 [0,10] 15 (Co hw1 [7,8] 18 (Co hw2 [2,3] 18 (Co hp1 [7,8] 18 (Co hp2 [2,3] 19 (Co hr1 [7,8,0] 20 (Co hr2 [2,3,0] 20 (Co hs1 [12,13,15,16] 20 (Ai (qcK e) (Co hc1 [7,8] 20 (Co hc2 [2,3] 20 (Ai (qcK e1) (Ai (qcK x) (Ai (qcK e2) (Co hs2 [18,19] 20 (Ai (qcK e3) (Ai (qkn w) (Ai (qcK e4) (Co hs3 [7,8,2,3] 20 (Co hs4 [1,10] 20 tI)))))))))))))))))))))))))) (by kernel_rfl)
end Go.Proofs.Ytgbmdijodlfcaaa

namespace Go.Proofs.Ytgbmdijodlfcaaa
set_option maxRecDepth 100000
open Go.ChangeShapes Go.WideShapes Go.ChangeAt Go.RowKit Go.Joins Go.Deep
theorem qk8:Try.prog.cellsOf 27=2:=by kernel_rfl
theorem qm1:Try.prog.readableRec 27=true:=by kernel_rfl
theorem qpC:27<Try.prog.types.size:=of_decide_eq_true (by kernel_rfl)
section
variable {H:Type} {enc:TypeId×Value→H} {W:World} {base:Nat} {spare:Nat→Bool} {held:Bool}
theorem qfp {r:Reach} {b0:Nat} {v:Value} {d:DataW H} {p:List MemPlace} (hv:Value.okWide Try.prog W r b0 27 v) (h:DataW.Trod enc Try.prog W base spare held 27 v d p) :
 ∃ (b:Br) (u0 u1:Value),v=.agg #[u0,u1]∧Rd W 1 u0 b.p.length (ziV b.p)∧Rd W 1 u1 b.w.length (ziV b.w):=by
 obtain⟨cs,rfl,hsz⟩:=okWide_struct Try.underlying27 hv
 obtain⟨fuel,hf⟩:=h
 obtain⟨y0,y1,n,_,hlen,h0,h1⟩:=trod_struct2 Try.underlying27 hf
 obtain⟨u0,l0,hc0,r0,_⟩:=qcM h0
 obtain⟨u1,l1,hc1,r1,_⟩:=qcM h1
 refine⟨⟨l0,l1⟩,u0,u1,?_,r0,r1⟩
 rw[qrY] at hc0 hc1
 have hs:cs.size=2:=hsz.trans qk8
 obtain⟨L⟩:=cs
 match L,hs with
 | [c0,c1],_=>
  simp[Value.cells] at hc0 hc1
  rw[hc0,hc1]
end
section
variable {W:World} {f:FuncId} {s:List Pt} {l:List Int} {b:Br} {u u0 u1 v:Value} {vs:List Value} {t:Value}
theorem qpu (h:Fn f 4 (qaw 0 s::.pv t::.ls 1 l.length::brS 2 3 b::vs.map .pv) [(0,0,qai s),(1,0,zrI l),(2,0,zrI b.p),(3,0,zrI b.w)] (.pv (.bool true)) 0 [])
 (hs:Rd W 3 u s.length (qeI s)) (hl:Rd W 1 v l.length (ziV l)) (h0:Rd W 1 u0 b.p.length (ziV b.p)) (h1:Rd W 1 u1 b.w.length (ziV b.w)) :
 Calls Try.prog f (.agg #[u]::t::v::.agg #[u0,u1]::vs).toArray W fun e W'=>e=.returned (.bool true)∧Gr W W':=
 qlm (rs:=[(68,3,s.length,qeI s),(3,1,l.length,ziV l),(3,1,b.p.length,ziV b.p),(3,1,b.w.length,ziV b.w)]) (us:=[u,v,u0,u1]) h
  (.cons hs (qjc s) (.cons hl (qgF l) (.cons h0 (qgF b.p) (.cons h1 (qgF b.w) .nil)))) ⟨⟨[u],⟨⟨rfl,hs.zsl⟩,tI⟩,rfl⟩,rfl,⟨rfl,hl.zsl⟩,⟨[u0,u1],⟨⟨rfl,h0.zsl⟩,⟨rfl,h1.zsl⟩,tI⟩,rfl⟩,SV.isl_v vs⟩
end
end Go.Proofs.Ytgbmdijodlfcaaa

namespace Go.Proofs.Ytgbmdijodlfcaaa
set_option maxRecDepth 100000
open Go.RowKit
theorem qkd (s:List Pt):Fn 19 1 [qaw 0 s] [(0,0,qai s)] (.pv (.bool true)) 0 []∨Fn 19 1 [qaw 0 s] [(0,0,qai s)] (.pv (.bool false)) 0 []:=by
 rcases qij s with ⟨_,h⟩ | ⟨_,h⟩
 ·exact Or.inl h
 ·exact Or.inr h
section
variable {s:List Pt} {tn td:Int} (htn:I64 tn) (htd:I64 td)
include htn htd in
theorem qk2 (l:List Int) (b:Br) (pz:Int):Fn 4 4 [qaw 0 s,.pv (qab tn td),.ls 1 l.length,brS 2 3 b,.pv (iV pz)] [(0,0,qai s),(1,0,zrI l),(2,0,zrI b.p),(3,0,zrI b.w)] (.pv (.bool true)) 0 []:=by
 rcases qkd s with hg | hg
 ·exact qiD (hg:=hg)
 by_cases hl:70<l.length
 ·exact qk9 (hg:=hg) (hn:=dt (by omega))
 have hn:decide ((l.length:Int)>70)=false:=df (by omega)
 have h2:=qnx b
 by_cases hb:qoh b=true
 ·rw[hb] at h2
  exact qoB (hg:=hg) (hn:=hn) (hg2:=h2)
 rw[show qoh b=false by simpa using hb] at h2
 obtain⟨a1,a2⟩:=qnD (b:=b) (by simpa using hb)
 have n1:0+l.length≤1000000:=by omega
 have o1:(buR s tn td l).p.length≤1000000∧(buR s tn td l).w.length≤1000000:=by
  unfold buR
  split
  ·refine⟨by show l.length≤_;omega,?_⟩
   have:(bld s tn td l).w.length=l.length-1:=qcl l
   omega
  ·exact⟨Nat.zero_le _,Nat.zero_le _⟩
 have m1:(paR b pz).length≤1000000:=by
  unfold paR
  split
  ·rename_i h
   unfold paE at h
   split at h
   ·rename_i V
    split at h
    ·rename_i hz
     unfold wyV
     rw[List.length_map]
     have:=V.w
     have:=qgO (b.w.length+pz.toNat)
     omega
    ·cases h
   ·cases h
  ·exact Nat.zero_le _
 have hb2:=qpL htn htd (s:=s) l (by omega)
 have hs4:=qlU (l:=l) (by omega)
 unfold qbS at hb2
 refine qlL (hg:=hg) (hn:=hn) (hg2:=h2) (htw:=qqs a1 a2) (n1:=n1) (hb1:=qpr htn htd l (by omega)) (hb2:=?_) (hw1:=qnL a1 a2) (hw2:=qnw a1 a2) (hp1:=qrA a1 a2 pz) (hp2:=qrP a1 a2 pz)
  (hr1:=qpB htn htd a1 a2) (hr2:=qoW htn htd a1 a2) (hs1:=qja o1.1 o1.2) (hc1:=qlz a1 a2) (hc2:=qln a1 a2) (hs2:=qlU m1) (hs3:=qja (by omega) (by omega)) (hs4:=?_)
 ·rw[Nat.zero_add];exact hb2
 ·rw[Nat.zero_add];exact hs4
end
theorem qfG (s:List Pt) (tn td:Int) (htn:I64 tn) (htd:I64 td) (l:List Int) (_:∀ p∈l,(Lit.int .i64 p).wf=true) (b:Br) (z:Int):Fn 4 4 [qaw 0 s,.pv (qab tn td),.ls 1 l.length,brS 2 3 b,.pv (iV z)] [(0,0,qai s),(1,0,zrI l),(2,0,zrI b.p),(3,0,zrI b.w)] (.pv (.bool true)) 0 []:=qk2 htn htd l b z
end Go.Proofs.Ytgbmdijodlfcaaa
