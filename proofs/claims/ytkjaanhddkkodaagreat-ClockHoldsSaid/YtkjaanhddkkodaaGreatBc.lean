/-
  Package clock's exported functions, path by path. Conditions: none.
-/
import Derived.Test.YtkjaanhddkkodaaGreatW44
import Derived.Test.YtkjaanhddkkodaaGreatW18
namespace Go.Proofs.YtkjaanhddkkodaaGreat
set_option maxRecDepth 100000
open Go.RowKit
theorem qye {s:List Pt} {tn td:Int} {e1 e2:Int} (h1:Fn 48 1 [qaJ 0 s] [(0,0,qal s)] (.pv (iV (e1))) 0 []) (h2:Pure Tryz.prog 49 #[qaa tn td] (iV (e2))) (he:(e1 !=0)=true) :
 Fn 10 1 [qaJ 0 s,.pv (qaa tn td)] [(0,0,qal s)] (.pv (.tuple #[qcN,iV e1])) 0 []:=
 Fz [] [Cf h1 [0],Rf h2,.k,.k,.t true,.t true]
  tI (Co h1 [0] 4 (Ai h2 (Ai he (Ai he tI))))
abbrev qmP (s:List Pt):Prop:=Fn 48 1 [qaJ 0 s] [(0,0,qal s)] (.pv (iV (0))) 0 []
theorem qyk {s:List Pt} {tn td:Int} {e2:Int} (h1:qmP s) (h2:Pure Tryz.prog 49 #[qaa tn td] (iV (e2))) (he:(e2 !=0)=true) :
 Fn 10 1 [qaJ 0 s,.pv (qaa tn td)] [(0,0,qal s)] (.pv (.tuple #[qcN,iV e2])) 0 []:=
 Fz [] [Cf h1 [0],Rf h2,.k,.k,.k,.k,.k,.t true,.t true]
  tI (Co h1 [0] 4 (Ai h2 (Ai he (Ai he tI))))
abbrev qqY:Prop:=Fn 52 0 [] [] (.ag [.pv (iV 0),.ls 0 0]) 1 [(0,0,qak [])]
abbrev qut (s:List Pt):Prop:=Fn 51 1 [qaJ 0 s] [(0,0,qal s)] (.ag [.ls 1 s.length]) 1 [(1,0,qal s)]
theorem qzu {o:Ck} {s:List Pt} {tn td:Int} (h1:qmP s) (h2:Pure Tryz.prog 49 #[qaa tn td] (iV (0))) (ha:Fn 50 0 [.pv (iV (200))] [] (.tu [.ag [.ls 0 o.u.length,.ls 1 o.b.length,.ls 2 o.fr.length,.ls 4 0,.ls 3 o.wh.length],.one (.pv (iV 0))]) 5 [(0,0,zrI o.u),(1,0,zrB o.b),(2,0,zrI o.fr),(3,0,zrI o.wh),(4,0,qat [])]) (hf:qut s) (hcn:qqY) :
 Fn 10 1 [qaJ 0 s,.pv (qaa tn td)] [(0,0,qal s)] (.tu [.ag [.pv (iV tn),.pv (iV td),.ls 1 s.length,.pv (iV 0),.ls 7 0,.ls 2 o.u.length,.ls 3 o.b.length,.ls 4 o.fr.length,.ls 6 0,.ls 5 o.wh.length,.pv (.slice none 0 0)],.one (.pv (iV 0))]) 7 [(7,0,qak []),(1,0,qal s),(2,0,zrI o.u),(3,0,zrB o.b),(4,0,zrI o.fr),(5,0,zrI o.wh),(6,0,qat [])]:=
 Fz [(1,11),(2,5),(3,6),(4,7),(5,8),(6,9),(7,12)] [Cf h1 [0],Rf h2,.k,.k,.k,.k,.k,.k,.k,.k,.k,Cf ha [],.md,Cf hf [0],Cf hcn []]
  (qaC (qaK [(1,11),(2,5),(3,6),(4,7),(5,8),(6,9),(7,12)]) [(7,0,qak []),(1,0,qal s),(2,0,zrI o.u),(3,0,zrB o.b),(4,0,zrI o.fr),(5,0,zrI o.wh),(6,0,qat [])]) (Co h1 [0] 4 (Ai h2 (Co ha [] 5 (Co hf [0] 11 (Co hcn [] 12 tI)))))
theorem qvJ {s:List Pt} {a b:Int} (hn:qqY) (had:Fn 57 1 [qaH 0 0 ([]:List Pt),.pv (qag a b)] [(0,0,qak [])] (.pv (.tuple #[.agg #[iV 0,.slice none 0 0],iV 0,iV 8])) 0 []) :
 Fn 56 1 [qaJ 0 s,.pv (qag a b)] [(0,0,qal s)] (.pv (iV (8))) 0 []:=
 Fz [] [.md,Cf hn [],Cf had [3],.k]
  tI (Co hn [] 3 (Co had [3] 4 tI))
abbrev qy9 (a:Int) (b:Int) (l2:List Pt) (n:Int) (x2:Int):Prop:=Fn 57 1 [qaH 0 0 ([]:List Pt),.pv (qag a b)] [(0,0,qak [])] (.tu [.ag [.pv (iV x2),.ls 1 l2.length],.one (.pv (iV n)),.one (.pv (iV 0))]) 1 [(1,0,qak l2)]
theorem qAv {s:List Pt} {n a b:Int} {x2:Int} {l2:List Pt} (hn:qqY) (had:qy9 a b l2 n x2) (hb:Fn 102 1 [qaJ 0 s,.pv (qag a b)] [(0,0,qal s)] (.pv (.bool true)) 0 []) :
 Fn 56 1 [qaJ 0 s,.pv (qag a b)] [(0,0,qal s)] (.pv (iV (0))) 0 []:=
 Fz [] [.md,Cf hn [],Cf had [3],.k,Cf hb [0],.k]
  tI (Co hn [] 3 (Co had [3] 4 (Co hb [0] 6 tI)))
theorem qqc {s:List Pt} {n a b:Int} {x2:Int} {l2:List Pt} (hn:qqY) (had:qy9 a b l2 n x2) (hb:Fn 102 1 [qaJ 0 s,.pv (qag a b)] [(0,0,qal s)] (.pv (.bool false)) 0 []) :
 Fn 56 1 [qaJ 0 s,.pv (qag a b)] [(0,0,qal s)] (.pv (iV (6))) 0 []:=
 Fz [] [.md,Cf hn [],Cf had [3],.k,Cf hb [0],.k]
  tI (Co hn [] 3 (Co had [3] 4 (Co hb [0] 6 tI)))
abbrev qrx (c:Ck) (e1:Int):Prop:=Fn 22 8 [qao c] (qar c) (.pv (iV (e1))) 0 []
theorem qx8 {c:Ck} {a b:Int} {e1 e2:Int} (h1:qrx c e1) (h2:Fn 56 1 [qaJ 0 c.s,.pv (qag a b)] [(0,0,qal c.s)] (.pv (iV (e2))) 0 []) (he:(e1 !=0)=true) :
 Fn 16 8 [qao c,.pv (qag a b)] (qar c) (.pv (.tuple #[qcN,iV 0,iV e1])) 0 []:=
 Fz [] [Cf h1 [0,1,2,3,4,5,6,7],Cf h2 [0],.k,.k,.t true,.t true]
  tI (Co h1 [0,1,2,3,4,5,6,7] 11 (Co h2 [0] 11 (Ai he (Ai he tI))))
abbrev qg2 (c:Ck):Prop:=Fn 22 8 [qao c] (qar c) (.pv (iV (0))) 0 []
theorem qsz {c:Ck} {a b:Int} {e2:Int} (h1:qg2 c) (h2:Fn 56 1 [qaJ 0 c.s,.pv (qag a b)] [(0,0,qal c.s)] (.pv (iV (e2))) 0 []) (he:(e2 !=0)=true) :
 Fn 16 8 [qao c,.pv (qag a b)] (qar c) (.pv (.tuple #[qcN,iV 0,iV e2])) 0 []:=
 Fz [] [Cf h1 [0,1,2,3,4,5,6,7],Cf h2 [0],.k,.k,.k,.k,.k,.t true,.t true]
  tI (Co h1 [0,1,2,3,4,5,6,7] 11 (Co h2 [0] 11 (Ai he (Ai he tI))))
abbrev qoS (a:Int) (b:Int) (c:Ck):Prop:=Fn 56 1 [qaJ 0 c.s,.pv (qag a b)] [(0,0,qal c.s)] (.pv (iV (0))) 0 []
theorem qnb {c:Ck} {a b e:Int} (h1:qg2 c) (h2:qoS a b c) (had:Fn 57 1 [qaH 0 c.x c.l,.pv (qag a b)] [(0,0,qak c.l)] (.pv (.tuple #[.agg #[iV 0,.slice none 0 0],iV 0,iV e])) 0 []) (he:(e !=0)=true) :
 Fn 16 8 [qao c,.pv (qag a b)] (qar c) (.pv (.tuple #[qcN,iV 0,iV e])) 0 []:=
 Fz [] [Cf h1 [0,1,2,3,4,5,6,7],Cf h2 [0],.k,.k,.k,.k,.k,.k,.k,.k,.k,Cf had [1],.t true]
  tI (Co h1 [0,1,2,3,4,5,6,7] 11 (Co h2 [0] 11 (Co had [1] 12 (Ai he tI))))
abbrev qE0 (a:Int) (b:Int) (c:Ck) (l2:List Pt) (n:Int) (x2:Int):Prop:=Fn 57 1 [qaH 0 c.x c.l,.pv (qag a b)] [(0,0,qak c.l)] (.tu [.ag [.pv (iV x2),.ls 1 l2.length],.one (.pv (iV n)),.one (.pv (iV 0))]) 1 [(1,0,qak l2)]
abbrev qlv (c:Ck):Prop:=Fn 58 8 [qao c] (qar c) (qBt c) 8 (qdw c)
theorem qA3 {c:Ck} {n a b:Int} {x2:Int} {l2:List Pt} (h1:qg2 c) (h2:qoS a b c) (had:qE0 a b c l2 n x2) (hcl:qlv c) (ht:Fn 59 8 [qao ({ c with x:=x2,l:=l2 }:Ck),.pv (ptV (Pt.mk n a b))] (qar ({ c with x:=x2,l:=l2 }:Ck)) (.tu [qrE ({ c with x:=x2,l:=l2 }:Ck),.one (.pv (iV 0))]) 0 []) :
 Fn 16 8 [qao c,.pv (qag a b)] (qar c) (.tu [qib ({ c with x:=x2,l:=l2 }:Ck),.one (.pv (iV n)),.one (.pv (iV 0))]) 8 (qdw ({ c with x:=x2,l:=l2 }:Ck)):=
 Fz [(8,14),(9,12),(10,16),(11,17),(12,18),(13,19),(14,20),(15,21)] [Cf h1 [0,1,2,3,4,5,6,7],Cf h2 [0],.k,.k,.k,.k,.k,.k,.k,.k,.k,Cf had [1],.k,Cf hcl [0,1,2,3,4,5,6,7],Cf ht [14,12,16,17,18,19,20,21],.k]
  (qaC (qaK [(8,14),(9,12),(10,16),(11,17),(12,18),(13,19),(14,20),(15,21)]) (qdw ({ c with x:=x2,l:=l2 }:Ck))) (Co h1 [0,1,2,3,4,5,6,7] 11 (Co h2 [0] 11 (Co had [1] 12 (Co hcl [0,1,2,3,4,5,6,7] 14 (Co ht [14,12,16,17,18,19,20,21] 23 tI)))))
theorem qtT {c o:Ck} {n a b:Int} {x2:Int} {l l2:List Pt} (h1:qg2 c) (h2:qoS a b c) (had:qE0 a b c l2 n x2) (hcl:qlv c) (ht:Fn 59 8 [qao ({ c with x:=x2,l:=l2 }:Ck),.pv (ptV (Pt.mk n a b))] (qar ({ c with x:=x2,l:=l2 }:Ck)) (.tu [qhx ({ c with x:=x2,l:=l2 }:Ck) o l,.one (.pv (iV 0))]) 6 [(8,0,zrI o.u),(9,0,zrB o.b),(10,0,zrI o.fr),(11,0,qat o.ev),(12,0,zrI o.wh),(13,0,qaV l)]) :
 Fn 16 8 [qao c,.pv (qag a b)] (qar c) (.tu [qib ({ c with x:=x2,l:=l2,u:=o.u,b:=o.b,fr:=o.fr,ev:=o.ev,wh:=o.wh,d:=l }:Ck),.one (.pv (iV n)),.one (.pv (iV 0))]) 8 (qdw ({ c with x:=x2,l:=l2,u:=o.u,b:=o.b,fr:=o.fr,ev:=o.ev,wh:=o.wh,d:=l }:Ck)):=
 Fz [(8,14),(9,12),(10,23),(11,24),(12,25),(13,26),(14,27),(15,28)] [Cf h1 [0,1,2,3,4,5,6,7],Cf h2 [0],.k,.k,.k,.k,.k,.k,.k,.k,.k,Cf had [1],.k,Cf hcl [0,1,2,3,4,5,6,7],Cf ht [14,12,16,17,18,19,20,21],.k]
  (qaC (qaK [(8,14),(9,12),(10,23),(11,24),(12,25),(13,26),(14,27),(15,28)]) (qdw ({ c with x:=x2,l:=l2,u:=o.u,b:=o.b,fr:=o.fr,ev:=o.ev,wh:=o.wh,d:=l }:Ck))) (Co h1 [0,1,2,3,4,5,6,7] 11 (Co h2 [0] 11 (Co had [1] 12 (Co hcl [0,1,2,3,4,5,6,7] 14 (Co ht [14,12,16,17,18,19,20,21] 23 tI)))))
theorem qpz {c:Ck} {n a b e:Int} {x2:Int} {l2:List Pt} (h1:qg2 c) (h2:qoS a b c) (had:qE0 a b c l2 n x2) (hcl:qlv c) (ht:Fn 59 8 [qao ({ c with x:=x2,l:=l2 }:Ck),.pv (ptV (Pt.mk n a b))] (qar ({ c with x:=x2,l:=l2 }:Ck)) (.pv (.tuple #[qcN,iV e])) 0 []) (he:(e !=0)=true) :
 Fn 16 8 [qao c,.pv (qag a b)] (qar c) (.pv (.tuple #[qcN,iV 0,iV e])) 0 []:=
 Fz [] [Cf h1 [0,1,2,3,4,5,6,7],Cf h2 [0],.k,.k,.k,.k,.k,.k,.k,.k,.k,Cf had [1],.k,Cf hcl [0,1,2,3,4,5,6,7],Cf ht [14,12,16,17,18,19,20,21],.t true]
  tI (Co h1 [0,1,2,3,4,5,6,7] 11 (Co h2 [0] 11 (Co had [1] 12 (Co hcl [0,1,2,3,4,5,6,7] 14 (Co ht [14,12,16,17,18,19,20,21] 23 (Ai he tI))))))
theorem qs4 {c:Ck} {n e:Int} (h1:Fn 22 8 [qao c] (qar c) (.pv (iV (e))) 0 []) (he:(e !=0)=true) :
 Fn 17 8 [qao c,.pv (iV (n))] (qar c) (.pv (.tuple #[qcN,iV e])) 0 []:=
 Fz [] [Cf h1 [0,1,2,3,4,5,6,7],.t true]
  tI (Co h1 [0,1,2,3,4,5,6,7] 10 (Ai he tI))
theorem qvO {c:Ck} {n a b e:Int} (h1:qg2 c) (hr:Fn 60 8 [qao c,.pv (iV (n))] (qar c) (.pv (.tuple #[qcN,qag a b,iV e])) 0 []) :
 Fn 17 8 [qao c,.pv (iV (n))] (qar c) (.pv (.tuple #[qcN,iV e])) 0 []:=
 Fz [] [Cf h1 [0,1,2,3,4,5,6,7],.k,Cf hr [0,1,2,3,4,5,6,7]]
  tI (Co h1 [0,1,2,3,4,5,6,7] 10 (Co hr [0,1,2,3,4,5,6,7] 10 tI))
theorem qy3 {c o:Ck} {n a b:Int} (h1:qg2 c) (hr:Fn 60 8 [qao c,.pv (iV (n))] (qar c) (.tu [qib o,.one (.pv (qag a b)),.one (.pv (iV 0))]) 8 (qdw o)) :
 Fn 17 8 [qao c,.pv (iV (n))] (qar c) (.tu [qib o,.one (.pv (iV 0))]) 8 (qdw o):=
 Fz [(8,10),(9,11),(10,12),(11,13),(12,14),(13,15),(14,16),(15,17)] [Cf h1 [0,1,2,3,4,5,6,7],.k,Cf hr [0,1,2,3,4,5,6,7]]
  (qaC (qaK [(8,10),(9,11),(10,12),(11,13),(12,14),(13,15),(14,16),(15,17)]) (qdw o)) (Co h1 [0,1,2,3,4,5,6,7] 10 (Co hr [0,1,2,3,4,5,6,7] 10 tI))
theorem qvh {c:Ck} {e:Int} (h1:Fn 22 8 [qao c] (qar c) (.pv (iV (e))) 0 []) (he:(e !=0)=true) :
 Fn 18 8 [qao c] (qar c) (.pv (.tuple #[.agg #[iV 0,iV 0,iV 0,iV 0,iV 0],iV e])) 0 []:=
 Fz [] [Cf h1 [0,1,2,3,4,5,6,7],.t true]
  tI (Co h1 [0,1,2,3,4,5,6,7] 10 (Ai he tI))
abbrev qrp (c:Ck):HpL:=[(0,0,zrI c.u),(1,0,zrB c.b),(2,0,zrI c.fr),(3,0,qat c.ev),(4,0,zrI c.wh)]
theorem qst {c:Ck} {e:Int} {y:Ev} (h1:qg2 c) (ht:Fn 61 5 [agA c.u c.b c.fr c.ev c.wh] (qrp c) (.pv (.tuple #[qac y,iV e])) 0 []) :
 Fn 18 8 [qao c] (qar c) (.pv (.tuple #[qac y,iV e])) 0 []:=
 Fz [] [Cf h1 [0,1,2,3,4,5,6,7],.k,Cf ht [2,3,4,5,6]]
  tI (Co h1 [0,1,2,3,4,5,6,7] 10 (Co ht [2,3,4,5,6] 10 tI))
theorem quK {c:Ck} {n tn td e:Int} (hc:Pure Tryz.prog 116 #[qaa tn td,qaa c.tn c.td] (.tuple #[iV n,iV e])) (he:(e==0)=false) :
 Fn 62 8 [qao c,.pv (qaa tn td)] (qar c) (.pv (iV (e))) 0 []:=
 Fz [] [Rf hc,.t false]
  tI (Ai hc (Ai he tI))
theorem qrk {c:Ck} {n tn td:Int} (hc:Pure Tryz.prog 116 #[qaa tn td,qaa c.tn c.td] (.tuple #[iV n,iV 0])) (hn:decide (n<0)=true) :
 Fn 62 8 [qao c,.pv (qaa tn td)] (qar c) (.pv (iV (44))) 0 []:=
 Fz [] [Rf hc,.k,.t true]
  tI (Ai hc (Ai hn tI))
theorem qy5 {c:Ck} {n tn td:Int} (hc:Pure Tryz.prog 116 #[qaa tn td,qaa c.tn c.td] (.tuple #[iV n,iV 0])) (hn:decide (n<0)=false) :
 Fn 62 8 [qao c,.pv (qaa tn td)] (qar c) (.pv (iV (0))) 0 []:=
 Fz [] [Rf hc,.k,.t false]
  tI (Ai hc (Ai hn tI))
theorem qzC {c:Ck} {tn td e:Int} {y:Ev} (ht:Fn 61 5 [agA c.u c.b c.fr c.ev c.wh] (qrp c) (.pv (.tuple #[qac y,iV e])) 0 []) (he:(e !=0)=true) :
 Fn 63 8 [qao c,.pv (qaa tn td)] (qar c) (.pv (.tuple #[.agg #[iV 0,iV 0,iV 0,iV 0,iV 0],.bool false])) 0 []:=
 Fz [] [Cf ht [2,3,4,5,6],.t true]
  tI (Co ht [2,3,4,5,6] 11 (Ai he tI))
theorem qvd {c:Ck} {n tn td:Int} {y:Ev} (ht:Fn 61 5 [agA c.u c.b c.fr c.ev c.wh] (qrp c) (.pv (.tuple #[qac y,iV 0])) 0 []) (hc:Pure Tryz.prog 116 #[qaa y.n y.d,qaa tn td] (.tuple #[iV n,iV 0])) (hn:decide (n≤0)=true) :
 Fn 63 8 [qao c,.pv (qaa tn td)] (qar c) (.pv (.tuple #[qac y,.bool true])) 0 []:=
 Fz [] [Cf ht [2,3,4,5,6],.k,Rf hc,.t true]
  tI (Co ht [2,3,4,5,6] 11 (Ai hc (Ai hn tI)))
theorem qv8 {c:Ck} {n tn td:Int} {y:Ev} (ht:Fn 61 5 [agA c.u c.b c.fr c.ev c.wh] (qrp c) (.pv (.tuple #[qac y,iV 0])) 0 []) (hc:Pure Tryz.prog 116 #[qaa y.n y.d,qaa tn td] (.tuple #[iV n,iV 0])) (hn:decide (n≤0)=false) :
 Fn 63 8 [qao c,.pv (qaa tn td)] (qar c) (.pv (.tuple #[qac y,.bool false])) 0 []:=
 Fz [] [Cf ht [2,3,4,5,6],.k,Rf hc,.t false]
  tI (Co ht [2,3,4,5,6] 11 (Ai hc (Ai hn tI)))
abbrev qrq (c:Ck) (e2:Int) (td:Int) (tn:Int):Prop:=Fn 62 8 [qao c,.pv (qaa tn td)] (qar c) (.pv (iV (e2))) 0 []
theorem qAY {c:Ck} {tn td:Int} {e1 e2:Int} (h1:qrx c e1) (h2:qrq c e2 td tn) (he:(e1 !=0)=true) :
 Fn 19 8 [qao c,.pv (qaa tn td)] (qar c) (.pv (.tuple #[qcN,.agg #[iV 0,iV 0,iV 0,iV 0,iV 0],qag 0 0,iV e1])) 0 []:=
 Fz [] [Cf h1 [0,1,2,3,4,5,6,7],Cf h2 [0,1,2,3,4,5,6,7],.k,.k,.t true,.t true]
  tI (Co h1 [0,1,2,3,4,5,6,7] 13 (Co h2 [0,1,2,3,4,5,6,7] 13 (Ai he (Ai he tI))))
theorem qzF {c:Ck} {tn td:Int} {e2:Int} (h1:qg2 c) (h2:qrq c e2 td tn) (he:(e2 !=0)=true) :
 Fn 19 8 [qao c,.pv (qaa tn td)] (qar c) (.pv (.tuple #[qcN,.agg #[iV 0,iV 0,iV 0,iV 0,iV 0],qag 0 0,iV e2])) 0 []:=
 Fz [] [Cf h1 [0,1,2,3,4,5,6,7],Cf h2 [0,1,2,3,4,5,6,7],.k,.k,.k,.k,.k,.t true,.t true]
  tI (Co h1 [0,1,2,3,4,5,6,7] 13 (Co h2 [0,1,2,3,4,5,6,7] 13 (Ai he (Ai he tI))))
abbrev qoO (c:Ck) (td:Int) (tn:Int):Prop:=Fn 62 8 [qao c,.pv (qaa tn td)] (qar c) (.pv (iV (0))) 0 []
theorem qys {c:Ck} {tn td:Int} {y:Ev} (h1:qg2 c) (h2:qoO c td tn) (hd:Fn 63 8 [qao c,.pv (qaa tn td)] (qar c) (.pv (.tuple #[qac y,.bool false])) 0 []) :
 Fn 19 8 [qao c,.pv (qaa tn td)] (qar c) (.pv (.tuple #[qcN,.agg #[iV 0,iV 0,iV 0,iV 0,iV 0],qag 0 0,iV 6])) 0 []:=
 Fz [] [Cf h1 [0,1,2,3,4,5,6,7],Cf h2 [0,1,2,3,4,5,6,7],.k,.k,.k,.k,.k,.k,.k,.k,.k,Cf hd [0,1,2,3,4,5,6,7],.k]
  tI (Co h1 [0,1,2,3,4,5,6,7] 13 (Co h2 [0,1,2,3,4,5,6,7] 13 (Co hd [0,1,2,3,4,5,6,7] 14 tI)))
theorem qzc {c o:Ck} {a b tn td:Int} {y:Ev} (h1:qg2 c) (h2:qoO c td tn) (hd:Fn 63 8 [qao c,.pv (qaa tn td)] (qar c) (.pv (.tuple #[qac y,.bool true])) 0 []) (hr:Fn 60 8 [qao c,.pv (iV (y.k))] (qar c) (.tu [qib o,.one (.pv (qag a b)),.one (.pv (iV 0))]) 8 (qdw o)) :
 Fn 19 8 [qao c,.pv (qaa tn td)] (qar c) (.tu [qib ({ o with tn:=y.n,td:=y.d }:Ck),.one (.pv (qac y)),.one (.pv (qag a b)),.one (.pv (iV 0))]) 8 (qdw ({ o with tn:=y.n,td:=y.d }:Ck)):=
 Fz [(8,15),(9,16),(10,17),(11,18),(12,19),(13,20),(14,21),(15,22)] [Cf h1 [0,1,2,3,4,5,6,7],Cf h2 [0,1,2,3,4,5,6,7],.k,.k,.k,.k,.k,.k,.k,.k,.k,Cf hd [0,1,2,3,4,5,6,7],.k,Cf hr [0,1,2,3,4,5,6,7]]
  (qaC (qaK [(8,15),(9,16),(10,17),(11,18),(12,19),(13,20),(14,21),(15,22)]) (qdw ({ o with tn:=y.n,td:=y.d }:Ck))) (Co h1 [0,1,2,3,4,5,6,7] 13 (Co h2 [0,1,2,3,4,5,6,7] 13 (Co hd [0,1,2,3,4,5,6,7] 14 (Co hr [0,1,2,3,4,5,6,7] 15 tI))))
theorem qyZ {c:Ck} {tn td:Int} {e1 e2:Int} (h1:qrx c e1) (h2:qrq c e2 td tn) (he:(e1 !=0)=true) :
 Fn 20 8 [qao c,.pv (qaa tn td)] (qar c) (.pv (.tuple #[qcN,iV e1])) 0 []:=
 Fz [] [Cf h1 [0,1,2,3,4,5,6,7],Cf h2 [0,1,2,3,4,5,6,7],.k,.k,.t true,.t true]
  tI (Co h1 [0,1,2,3,4,5,6,7] 11 (Co h2 [0,1,2,3,4,5,6,7] 11 (Ai he (Ai he tI))))
theorem qAx {c:Ck} {tn td:Int} {e2:Int} (h1:qg2 c) (h2:qrq c e2 td tn) (he:(e2 !=0)=true) :
 Fn 20 8 [qao c,.pv (qaa tn td)] (qar c) (.pv (.tuple #[qcN,iV e2])) 0 []:=
 Fz [] [Cf h1 [0,1,2,3,4,5,6,7],Cf h2 [0,1,2,3,4,5,6,7],.k,.k,.k,.k,.k,.t true,.t true]
  tI (Co h1 [0,1,2,3,4,5,6,7] 11 (Co h2 [0,1,2,3,4,5,6,7] 11 (Ai he (Ai he tI))))
theorem quC {c:Ck} {tn td:Int} {y:Ev} (h1:qg2 c) (h2:qoO c td tn) (hd:Fn 63 8 [qao c,.pv (qaa tn td)] (qar c) (.pv (.tuple #[qac y,.bool true])) 0 []) :
 Fn 20 8 [qao c,.pv (qaa tn td)] (qar c) (.pv (.tuple #[qcN,iV 36])) 0 []:=
 Fz [] [Cf h1 [0,1,2,3,4,5,6,7],Cf h2 [0,1,2,3,4,5,6,7],.k,.k,.k,.k,.k,.k,.k,.k,.k,Cf hd [0,1,2,3,4,5,6,7]]
  tI (Co h1 [0,1,2,3,4,5,6,7] 11 (Co h2 [0,1,2,3,4,5,6,7] 11 (Co hd [0,1,2,3,4,5,6,7] 12 tI)))
theorem qA2 {c:Ck} {tn td:Int} {y:Ev} (h1:qg2 c) (h2:qoO c td tn) (hd:Fn 63 8 [qao c,.pv (qaa tn td)] (qar c) (.pv (.tuple #[qac y,.bool false])) 0 []) (hcl:qlv c) :
 Fn 20 8 [qao c,.pv (qaa tn td)] (qar c) (.tu [qib ({ c with tn:=tn,td:=td }:Ck),.one (.pv (iV 0))]) 8 (qdw ({ c with tn:=tn,td:=td }:Ck)):=
 Fz [(8,13),(9,14),(10,15),(11,16),(12,17),(13,18),(14,19),(15,20)] [Cf h1 [0,1,2,3,4,5,6,7],Cf h2 [0,1,2,3,4,5,6,7],.k,.k,.k,.k,.k,.k,.k,.k,.k,Cf hd [0,1,2,3,4,5,6,7],Cf hcl [0,1,2,3,4,5,6,7]]
  (qaC (qaK [(8,13),(9,14),(10,15),(11,16),(12,17),(13,18),(14,19),(15,20)]) (qdw ({ c with tn:=tn,td:=td }:Ck))) (Co h1 [0,1,2,3,4,5,6,7] 11 (Co h2 [0,1,2,3,4,5,6,7] 11 (Co hd [0,1,2,3,4,5,6,7] 12 (Co hcl [0,1,2,3,4,5,6,7] 13 tI))))
abbrev qAg (c:Ck) (s:List Pt):HpL:=[(0,0,qal c.s),(1,0,qak c.l),(2,0,zrI c.u),(3,0,zrB c.b),(4,0,zrI c.fr),(5,0,qat c.ev),(6,0,zrI c.wh),(7,0,qaV c.d),(8,0,qal s)]
abbrev qu2 (c:Ck) (e3:Int) (s:List Pt):Prop:=Fn 64 2 [qaJ 0 s,qaH 1 c.x c.l] [(0,0,qal s),(1,0,qak c.l)] (.pv (iV (e3))) 0 []
theorem qAW {c:Ck} {s:List Pt} {e1 e2 e3:Int} (h1:qrx c e1) (h2:Fn 48 1 [qaJ 0 s] [(0,0,qal s)] (.pv (iV (e2))) 0 []) (h3:qu2 c e3 s) (he:(e1 !=0)=true) :
 Fn 21 9 [qao c,qaJ 8 s] (qAg c s) (.pv (.tuple #[qcN,iV e1])) 0 []:=
 Fz [] [Cf h1 [0,1,2,3,4,5,6,7],Cf h2 [8],Cf h3 [8,1],.k,.k,.t true,.t true]
  tI (Co h1 [0,1,2,3,4,5,6,7] 12 (Co h2 [8] 12 (Co h3 [8,1] 12 (Ai he (Ai he tI)))))
theorem qyj {c:Ck} {s:List Pt} {e2 e3:Int} (h1:qg2 c) (h2:Fn 48 1 [qaJ 0 s] [(0,0,qal s)] (.pv (iV (e2))) 0 []) (h3:qu2 c e3 s) (he:(e2 !=0)=true) :
 Fn 21 9 [qao c,qaJ 8 s] (qAg c s) (.pv (.tuple #[qcN,iV e2])) 0 []:=
 Fz [] [Cf h1 [0,1,2,3,4,5,6,7],Cf h2 [8],Cf h3 [8,1],.k,.k,.k,.k,.k,.t true,.t true]
  tI (Co h1 [0,1,2,3,4,5,6,7] 12 (Co h2 [8] 12 (Co h3 [8,1] 12 (Ai he (Ai he tI)))))
theorem qAO {c:Ck} {s:List Pt} {e3:Int} (h1:qg2 c) (h2:qmP s) (h3:qu2 c e3 s) (he:(e3 !=0)=true) :
 Fn 21 9 [qao c,qaJ 8 s] (qAg c s) (.pv (.tuple #[qcN,iV e3])) 0 []:=
 Fz [] [Cf h1 [0,1,2,3,4,5,6,7],Cf h2 [8],Cf h3 [8,1],.k,.k,.k,.k,.k,.k,.k,.k,.t true,.t true]
  tI (Co h1 [0,1,2,3,4,5,6,7] 12 (Co h2 [8] 12 (Co h3 [8,1] 12 (Ai he (Ai he tI)))))
abbrev qw3 (c:Ck) (o:Ck) (s:List Pt):HpL:=[(1,0,qak c.l),(11,0,.pv (iV 0)),(11,1,.pv (iV 0)),(11,2,.pv (.slice none 0 0)),(11,3,.pv (iV 0)),(11,4,.pv (.slice none 0 0)),(11,5,.pv (.slice none 0 0)),(11,6,.pv (.slice none 0 0)),(11,7,.pv (.slice none 0 0)),(11,8,.pv (.slice none 0 0)),(11,9,.pv (.slice none 0 0)),(11,10,.pv (.slice none 0 0)),(21,0,.pv (iV c.tn)),(21,1,.pv (iV c.td)),(21,2,.ls 22 s.length),(21,3,.pv (iV c.x)),(21,4,.ls 14 c.l.length),(21,5,.ls 15 o.u.length),(21,6,.ls 16 o.b.length),(21,7,.ls 17 o.fr.length),(21,8,.ls 18 o.ev.length),(21,9,.ls 19 o.wh.length),(21,10,.ls 20 o.d.length),(22,0,qal s),(14,0,qak c.l),(15,0,zrI o.u),(16,0,zrB o.b),(17,0,zrI o.fr),(18,0,qat o.ev),(19,0,zrI o.wh),(20,0,qaV o.d)]
abbrev qyT (c:Ck) (k:Nat):TmL:=[(4,.pp 11 0),(7,.pp 21 0),(32,.ls 1 c.l.length),(33,.pv (iV (c.l.length:Int))),(34,.pv (iV (k:Int)))]
abbrev qB8 (c:Ck) (o:Ck) (s:List Pt):HpL:=[(0,0,qal s),(1,0,qak c.l),(2,0,zrI o.u),(3,0,zrB o.b),(4,0,zrI o.fr),(5,0,qat o.ev),(6,0,zrI o.wh),(7,0,qaV o.d)]
abbrev qur (c:Ck) (k:Nat):TmL:=[(4,.pp 11 0),(7,.pp 21 0),(32,.ls 1 c.l.length),(33,.pv (iV (c.l.length:Int))),(34,.pv (iV ((k+1:Nat):Int)))]
theorem qwa {c o:Ck} {s:List Pt} {p:Pt} {k:Nat} {r9:Ck} (hk:c.l[k]?=some p) (hin:0≤(k:Int)∧(k:Int)<(c.l.length:Int)) (hlt:decide ((k:Int)<(c.l.length:Int))=true) (ht:Fn 59 8 [qao ({ o with tn:=c.tn,td:=c.td,s:=s,x:=c.x,l:=c.l }:Ck),.pv (ptV p)] (qB8 c o s) (.tu [qtb ({ o with tn:=c.tn,td:=c.td,s:=s,x:=c.x,l:=c.l }:Ck) r9,.one (.pv (iV 0))]) 5 [(8,0,zrI r9.u),(9,0,zrB r9.b),(10,0,zrI r9.fr),(11,0,qat r9.ev),(12,0,zrI r9.wh)]) (hs:iV (IntKind.i64.wrap ((k:Int)+1))=iV (((k+1:Nat):Int))) {e:Exit} {tm2:TmL} {hp2:HpL}
 (r:Rl 9 9 21 0 50 23 (qur c k) ([(1,0,qak c.l),(11,0,.pv (iV 0)),(11,1,.pv (iV 0)),(11,2,.pv (.slice none 0 0)),(11,3,.pv (iV 0)),(11,4,.pv (.slice none 0 0)),(11,5,.pv (.slice none 0 0)),(11,6,.pv (.slice none 0 0)),(11,7,.pv (.slice none 0 0)),(11,8,.pv (.slice none 0 0)),(11,9,.pv (.slice none 0 0)),(11,10,.pv (.slice none 0 0)),(21,0,.pv (iV c.tn)),(21,1,.pv (iV c.td)),(21,2,.ls 22 s.length),(21,3,.pv (iV c.x)),(21,4,.ls 14 c.l.length),(21,5,.ls 15 r9.u.length),(21,6,.ls 16 r9.b.length),(21,7,.ls 17 r9.fr.length),(21,8,.ls 18 r9.ev.length),(21,9,.ls 19 r9.wh.length),(21,10,.ls 20 o.d.length),(22,0,qal s),(14,0,qak c.l),(15,0,zrI r9.u),(16,0,zrB r9.b),(17,0,zrI r9.fr),(18,0,qat r9.ev),(19,0,zrI r9.wh),(20,0,qaV o.d)]) e tm2 hp2):Rl 9 9 21 0 50 23 (qyT c k) (qw3 c o s) e tm2 hp2:=
 RunsL.next [(15,24),(16,25),(17,26),(18,27),(19,28)] 300 [.t true,.r (ptV p),Cf ht [22,14,15,16,17,18,19,20],.k,Re hs]
  (Ro (Ai hlt (Ai hin (Ai (qaI hk) (Co ht [22,14,15,16,17,18,19,20] 24 (Ai hs tI)))))) r
theorem qnI {c o:Ck} {s:List Pt} {p:Pt} {k:Nat} {l2:List Pt} {r9:Ck} (hk:c.l[k]?=some p) (hin:0≤(k:Int)∧(k:Int)<(c.l.length:Int)) (hlt:decide ((k:Int)<(c.l.length:Int))=true) (ht:Fn 59 8 [qao ({ o with tn:=c.tn,td:=c.td,s:=s,x:=c.x,l:=c.l }:Ck),.pv (ptV p)] (qB8 c o s) (.tu [qhx ({ o with tn:=c.tn,td:=c.td,s:=s,x:=c.x,l:=c.l }:Ck) r9 l2,.one (.pv (iV 0))]) 6 [(8,0,zrI r9.u),(9,0,zrB r9.b),(10,0,zrI r9.fr),(11,0,qat r9.ev),(12,0,zrI r9.wh),(13,0,qaV l2)]) (hs:iV (IntKind.i64.wrap ((k:Int)+1))=iV (((k+1:Nat):Int))) {e:Exit} {tm2:TmL} {hp2:HpL}
 (r:Rl 9 9 21 0 50 23 (qur c k) ([(1,0,qak c.l),(11,0,.pv (iV 0)),(11,1,.pv (iV 0)),(11,2,.pv (.slice none 0 0)),(11,3,.pv (iV 0)),(11,4,.pv (.slice none 0 0)),(11,5,.pv (.slice none 0 0)),(11,6,.pv (.slice none 0 0)),(11,7,.pv (.slice none 0 0)),(11,8,.pv (.slice none 0 0)),(11,9,.pv (.slice none 0 0)),(11,10,.pv (.slice none 0 0)),(21,0,.pv (iV c.tn)),(21,1,.pv (iV c.td)),(21,2,.ls 22 s.length),(21,3,.pv (iV c.x)),(21,4,.ls 14 c.l.length),(21,5,.ls 15 r9.u.length),(21,6,.ls 16 r9.b.length),(21,7,.ls 17 r9.fr.length),(21,8,.ls 18 r9.ev.length),(21,9,.ls 19 r9.wh.length),(21,10,.ls 20 l2.length),(22,0,qal s),(14,0,qak c.l),(15,0,zrI r9.u),(16,0,zrB r9.b),(17,0,zrI r9.fr),(18,0,qat r9.ev),(19,0,zrI r9.wh),(20,0,qaV l2)]) e tm2 hp2):Rl 9 9 21 0 50 23 (qyT c k) (qw3 c o s) e tm2 hp2:=
 RunsL.next [(15,24),(16,25),(17,26),(18,27),(19,28),(20,29)] 300 [.t true,.r (ptV p),Cf ht [22,14,15,16,17,18,19,20],.k,Re hs]
  (Ro (Ai hlt (Ai hin (Ai (qaI hk) (Co ht [22,14,15,16,17,18,19,20] 24 (Ai hs tI)))))) r
theorem qpt {c o:Ck} {s:List Pt} {p:Pt} {k:Nat} (hk:c.l[k]?=some p) (hin:0≤(k:Int)∧(k:Int)<(c.l.length:Int)) (hlt:decide ((k:Int)<(c.l.length:Int))=true) (ht:Fn 59 8 [qao ({ o with tn:=c.tn,td:=c.td,s:=s,x:=c.x,l:=c.l }:Ck),.pv (ptV p)] (qB8 c o s) (.tu [qrE ({ o with tn:=c.tn,td:=c.td,s:=s,x:=c.x,l:=c.l }:Ck),.one (.pv (iV 0))]) 0 []) (hs:iV (IntKind.i64.wrap ((k:Int)+1))=iV (((k+1:Nat):Int))) {e:Exit} {tm2:TmL} {hp2:HpL}
 (r:Rl 9 9 21 0 50 23 (qur c k) (qw3 c o s) e tm2 hp2):Rl 9 9 21 0 50 23 (qyT c k) (qw3 c o s) e tm2 hp2:=
 RunsL.next [] 300 [.t true,.r (ptV p),Cf ht [22,14,15,16,17,18,19,20],.k,Re hs]
  (Ro (Ai hlt (Ai hin (Ai (qaI hk) (Co ht [22,14,15,16,17,18,19,20] 24 (Ai hs tI)))))) r
abbrev qFn:HpL:=[(11,0,.pv (iV 0)),(11,1,.pv (iV 0)),(11,2,.pv (.slice none 0 0)),(11,3,.pv (iV 0)),(11,4,.pv (.slice none 0 0)),(11,5,.pv (.slice none 0 0)),(11,6,.pv (.slice none 0 0)),(11,7,.pv (.slice none 0 0)),(11,8,.pv (.slice none 0 0)),(11,9,.pv (.slice none 0 0)),(11,10,.pv (.slice none 0 0))]
theorem qqp {c o:Ck} {s:List Pt} {p:Pt} {k:Nat} (hk:c.l[k]?=some p) (hin:0≤(k:Int)∧(k:Int)<(c.l.length:Int)) (hlt:decide ((k:Int)<(c.l.length:Int))=true) (ht:Fn 59 8 [qao ({ o with tn:=c.tn,td:=c.td,s:=s,x:=c.x,l:=c.l }:Ck),.pv (ptV p)] (qB8 c o s) (.pv (.tuple #[qcN,iV 18])) 0 []):Rl 9 9 21 0 50 23 (qyT c k) (qw3 c o s) (.ret) ([(4,.pp 11 0),(5,.pv (iV 18))]) (qFn):=
 RunsL.stop [] 300 [.t true,.r (ptV p),Cf ht [22,14,15,16,17,18,19,20],.k] (fun h=>by cases h)
  (Ro (Ai hlt (Ai hin (Ai (qaI hk) (Co ht [22,14,15,16,17,18,19,20] 24 tI)))))
abbrev qFx (c:Ck) (o:Ck) (s:List Pt):HpL:=[(11,0,.pv (iV 0)),(11,1,.pv (iV 0)),(11,2,.pv (.slice none 0 0)),(11,3,.pv (iV 0)),(11,4,.pv (.slice none 0 0)),(11,5,.pv (.slice none 0 0)),(11,6,.pv (.slice none 0 0)),(11,7,.pv (.slice none 0 0)),(11,8,.pv (.slice none 0 0)),(11,9,.pv (.slice none 0 0)),(11,10,.pv (.slice none 0 0)),(21,0,.pv (iV c.tn)),(21,1,.pv (iV c.td)),(21,2,.ls 22 s.length),(21,3,.pv (iV c.x)),(21,4,.ls 14 c.l.length),(21,5,.ls 15 o.u.length),(21,6,.ls 16 o.b.length),(21,7,.ls 17 o.fr.length),(21,8,.ls 18 o.ev.length),(21,9,.ls 19 o.wh.length),(21,10,.ls 20 o.d.length),(22,0,qal s),(14,0,qak c.l),(15,0,zrI o.u),(16,0,zrB o.b),(17,0,zrI o.fr),(18,0,qat o.ev),(19,0,zrI o.wh),(20,0,qaV o.d)]
theorem qvB {c o:Ck} {s:List Pt} {k:Nat} (hge:decide ((k:Int)<(c.l.length:Int))=false):Rl 9 9 21 0 50 23 (qyT c k) (qw3 c o s) (.exit 0) ([(4,.pp 11 0),(7,.pp 21 0)]) (qFx c o s):=
 RunsL.stop [] 300 [.t false] (fun h=>by cases h)
  (Ro (Ai hge tI))
abbrev qFt (c:Ck) (s:List Pt):HpL:=[(1,0,qak c.l),(11,0,.pv (iV 0)),(11,1,.pv (iV 0)),(11,2,.pv (.slice none 0 0)),(11,3,.pv (iV 0)),(11,4,.pv (.slice none 0 0)),(11,5,.pv (.slice none 0 0)),(11,6,.pv (.slice none 0 0)),(11,7,.pv (.slice none 0 0)),(11,8,.pv (.slice none 0 0)),(11,9,.pv (.slice none 0 0)),(11,10,.pv (.slice none 0 0)),(21,0,.pv (iV c.tn)),(21,1,.pv (iV c.td)),(21,2,.ls 22 s.length),(21,3,.pv (iV c.x)),(21,4,.ls 14 c.l.length),(21,5,.ls 15 c.u.length),(21,6,.ls 16 c.b.length),(21,7,.ls 17 c.fr.length),(21,8,.ls 18 c.ev.length),(21,9,.ls 19 c.wh.length),(21,10,.ls 20 c.d.length),(22,0,qal s),(14,0,qak c.l),(15,0,zrI c.u),(16,0,zrB c.b),(17,0,zrI c.fr),(18,0,qat c.ev),(19,0,zrI c.wh),(20,0,qaV c.d)]
abbrev qzg (c:Ck):TmL:=[(4,.pp 11 0),(7,.pp 21 0),(32,.ls 1 c.l.length),(33,.pv (iV (c.l.length:Int))),(34,.pv (iV ((0:Nat):Int)))]
theorem qoT {c:Ck} {s:List Pt} (h1:qg2 c) (h2:qmP s) (h3:Fn 64 2 [qaJ 0 s,qaH 1 c.x c.l] [(0,0,qal s),(1,0,qak c.l)] (.pv (iV (0))) 0 []) (hcl:qlv c) (hcf:qut s) (r0:Rl 9 9 21 0 50 23 (qzg c) (qFt c s) (.ret) ([(4,.pp 11 0),(5,.pv (iV 18))]) (qFn)) :
 Fn 21 9 [qao c,qaJ 8 s] (qAg c s) (.pv (.tuple #[qcN,iV 18])) 0 []:=
 Fz [] [Cf h1 [0,1,2,3,4,5,6,7],Cf h2 [8],Cf h3 [8,1],.k,.k,.k,.k,.k,.k,.k,.k,.k,.k,.k,.k,Cf hcl [0,1,2,3,4,5,6,7],Cf hcf [8],Lf r0]
  tI (Co h1 [0,1,2,3,4,5,6,7] 12 (Co h2 [8] 12 (Co h3 [8,1] 12 (Co hcl [0,1,2,3,4,5,6,7] 13 (Co hcf [8] 22 (Lo r0 [] tI))))))
theorem qxw {c o:Ck} {s:List Pt} (h1:qg2 c) (h2:qmP s) (h3:Fn 64 2 [qaJ 0 s,qaH 1 c.x c.l] [(0,0,qal s),(1,0,qak c.l)] (.pv (iV (0))) 0 []) (hcl:qlv c) (hcf:qut s) (r0:Rl 9 9 21 0 50 23 (qzg c) (qFt c s) (.exit 0) ([(4,.pp 11 0),(7,.pp 21 0)]) (qFx c o s)) :
 Fn 21 9 [qao c,qaJ 8 s] (qAg c s) (.tu [.ag [.pv (iV c.tn),.pv (iV c.td),.ls 9 s.length,.pv (iV c.x),.ls 10 c.l.length,.ls 11 o.u.length,.ls 12 o.b.length,.ls 13 o.fr.length,.ls 14 o.ev.length,.ls 15 o.wh.length,.ls 16 o.d.length],.one (.pv (iV 0))]) 8 [(9,0,qal s),(10,0,qak c.l),(11,0,zrI o.u),(12,0,zrB o.b),(13,0,zrI o.fr),(14,0,qat o.ev),(15,0,zrI o.wh),(16,0,qaV o.d)]:=
 Fz [(9,22),(10,14),(11,15),(12,16),(13,17),(14,18),(15,19),(16,20)] [Cf h1 [0,1,2,3,4,5,6,7],Cf h2 [8],Cf h3 [8,1],.k,.k,.k,.k,.k,.k,.k,.k,.k,.k,.k,.k,Cf hcl [0,1,2,3,4,5,6,7],Cf hcf [8],Lf r0]
  (qaC (qaK [(9,22),(10,14),(11,15),(12,16),(13,17),(14,18),(15,19),(16,20)]) [(9,0,qal s),(10,0,qak c.l),(11,0,zrI o.u),(12,0,zrB o.b),(13,0,zrI o.fr),(14,0,qat o.ev),(15,0,zrI o.wh),(16,0,qaV o.d)]) (Co h1 [0,1,2,3,4,5,6,7] 12 (Co h2 [8] 12 (Co h3 [8,1] 12 (Co hcl [0,1,2,3,4,5,6,7] 13 (Co hcf [8] 22 (Lo r0 [] tI))))))
end Go.Proofs.YtkjaanhddkkodaaGreat
