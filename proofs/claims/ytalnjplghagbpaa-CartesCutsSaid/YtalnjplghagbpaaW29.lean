/-
  Joined: Ec, Dd, De, Dc. Conditions: none.
-/
import Derived.Test.YtalnjplghagbpaaW28
import Derived.Test.YtalnjplghagbpaaW19
import Derived.Test.YtalnjplghagbpaaSxP
import Derived.Test.YtalnjplghagbpaaW24
namespace Go.Proofs.Ytalnjplghagbpaa
set_option maxRecDepth 100000
open Go.RowKit
theorem qkR {rt:Int} {l:List Pt} (hs:Fn 61 1 [.ls 0 l.length] [(0,0,qaa l)] (.pv (iV (4))) 0 []) :
 Fn 17 1 [trS 0 rt l] [(0,0,qaa l)] (.pv (iV (4))) 0 []:=
 Fz [] [Cf hs [0],.k]
  tI (Co hs [0] 2 tI)
abbrev qnQ (l:List Pt):Prop:=Fn 61 1 [.ls 0 l.length] [(0,0,qaa l)] (.pv (iV (0))) 0 []
theorem qkP {rt:Int} {l:List Pt} {g:List Int} (hs:qnQ l) (hw:Fn 45 1 [trS 0 rt l] [(0,0,qaa l)] (.tu [.one (.ls 1 g.length),.one (.pv (.bool false))]) 1 [(1,0,zrI g)]) :
 Fn 17 1 [trS 0 rt l] [(0,0,qaa l)] (.pv (iV (8))) 0 []:=
 Fz [] [Cf hs [0],.k,Cf hw [0],.k]
  tI (Co hs [0] 2 (Co hw [0] 2 tI))
theorem qp4 {rt:Int} {l:List Pt} {g:List Int} (hs:qnQ l) (hw:Fn 45 1 [trS 0 rt l] [(0,0,qaa l)] (.tu [.one (.ls 1 g.length),.one (.pv (.bool true))]) 1 [(1,0,zrI g)]) (hfi:Fn 63 2 [.ls 0 l.length,.ls 1 g.length] [(0,0,qaa l),(1,0,zrI g)] (.pv (.bool true)) 0 []) :
 Fn 17 1 [trS 0 rt l] [(0,0,qaa l)] (.pv (iV (0))) 0 []:=
 Fz [] [Cf hs [0],.k,Cf hw [0],.k,Cf hfi [0,2],.k]
  tI (Co hs [0] 2 (Co hw [0] 2 (Co hfi [0,2] 3 tI)))
theorem qow {rt:Int} {l:List Pt} {g:List Int} (hs:qnQ l) (hw:Fn 45 1 [trS 0 rt l] [(0,0,qaa l)] (.tu [.one (.ls 1 g.length),.one (.pv (.bool true))]) 1 [(1,0,zrI g)]) (hfi:Fn 63 2 [.ls 0 l.length,.ls 1 g.length] [(0,0,qaa l),(1,0,zrI g)] (.pv (.bool false)) 0 []) :
 Fn 17 1 [trS 0 rt l] [(0,0,qaa l)] (.pv (iV (8))) 0 []:=
 Fz [] [Cf hs [0],.k,Cf hw [0],.k,Cf hfi [0,2],.k]
  tI (Co hs [0] 2 (Co hw [0] 2 (Co hfi [0,2] 3 tI)))
abbrev qoP (k:Nat) (l:List Pt) (n:Nat):TmL:=[(2,.pp 2 0),(6,.ls 3 n),(11,.ls 1 l.length),(12,.pv (iV (l.length:Int))),(13,.pv (iV (k:Int)))]
theorem qlQ {s l:List Pt} {p q:Pt} {k n:Nat} {vs:List Value} {e7:Int} (hlt:decide ((k:Int)<(l.length:Int))=true) (hk:l[k]?=some p) (hin:0≤(k:Int)∧(k:Int)<(l.length:Int)) (hf:Fn 93 1 [qax 0 s,.pv (iV (p.id))] [(0,0,qan s)] (.pv (.tuple #[ptV q,iV (e7)])) 0 []) (he:(e7 !=0)=false) (hn:n+1≤1000000) (hs:iV (IntKind.i64.wrap ((k:Int)+1))=iV (((k+1:Nat):Int))) {e:Exit} {tm2:TmL} {hp2:HpL}
 (r:Rl 2 2 60 0 33 4 ([(2,.pp 2 0),(6,.ls 3 (n+1)),(11,.ls 1 l.length),(12,.pv (iV (l.length:Int))),(13,.pv (iV ((k+1:Nat):Int)))]) ([(2,0,.ls 0 s.length),(0,0,qan s),(1,0,qaa l),(3,0,.row 80 3 (n+1) (vs++[iV q.id,iV q.a,iV q.b]))]) e tm2 hp2):Rl 2 2 60 0 33 4 (qoP k l n) ([(2,0,.ls 0 s.length),(0,0,qan s),(1,0,qaa l),(3,0,.row 80 3 n (vs))]) e tm2 hp2:=
 RunsL.next [(3,7)] 300 [.t true,.r (ptV p),Cf hf [0],.t false,Re hs]
  (Ro (Ai hlt (Ai hin (Ai (qa0 hk) (Co hf [0] 5 (Ai he (Ai hn (Ai hs tI)))))))) r
theorem qo0 {s l:List Pt} {p q:Pt} {k n:Nat} {vs:List Value} {e7:Int} (hlt:decide ((k:Int)<(l.length:Int))=true) (hk:l[k]?=some p) (hin:0≤(k:Int)∧(k:Int)<(l.length:Int)) (hf:Fn 93 1 [qax 0 s,.pv (iV (p.id))] [(0,0,qan s)] (.pv (.tuple #[ptV q,iV (e7)])) 0 []) (he:(e7 !=0)=true):Rl 2 2 60 0 33 4 (qoP k l n) ([(2,0,.ls 0 s.length),(0,0,qan s),(1,0,qaa l),(3,0,.row 80 3 n (vs))]) (.ret) ([(4,.pv (.slice none 0 0)),(5,.pv (iV e7))]) ([]):=
 RunsL.stop [] 300 [.t true,.r (ptV p),Cf hf [0],.t true] (fun h=>by cases h)
  (Ro (Ai hlt (Ai hin (Ai (qa0 hk) (Co hf [0] 5 (Ai he tI))))))
theorem qpr {s l:List Pt} {k n:Nat} {vs:List Value} (hlt:decide ((k:Int)<(l.length:Int))=false):Rl 2 2 60 0 33 4 (qoP k l n) ([(2,0,.ls 0 s.length),(0,0,qan s),(1,0,qaa l),(3,0,.row 80 3 n (vs))]) (.exit 0) ([(6,.ls 3 n)]) ([(3,0,.row 80 3 n (vs))]):=
 RunsL.stop [] 300 [.t false] (fun h=>by cases h)
  (Ro (Ai hlt tI))
abbrev qqj (l:List Pt):TmL:=[(2,.pp 2 0),(6,.ls 3 0),(11,.ls 1 l.length),(12,.pv (iV (l.length:Int))),(13,.pv (iV ((0:Nat):Int)))]
theorem qoZ {s l:List Pt} {e7:Int} (r0:Rl 2 2 60 0 33 4 (qqj l) ([(2,0,.ls 0 s.length),(0,0,qan s),(1,0,qaa l),(3,0,.row 80 3 0 ([]))]) (.ret) ([(4,.pv (.slice none 0 0)),(5,.pv (iV e7))]) ([])) :
 Fn 60 2 [qax 0 s,.ls 1 l.length] [(0,0,qan s),(1,0,qaa l)] (.pv (.tuple #[.slice none 0 0,iV (e7)])) 0 []:=
 Fz [] [.ln true 6 0 80 3,Lf r0]
  tI (Lo r0 [] tI)
theorem qqt {s l:List Pt} {n:Nat} {vs:List Value} (r0:Rl 2 2 60 0 33 4 (qqj l) ([(2,0,.ls 0 s.length),(0,0,qan s),(1,0,qaa l),(3,0,.row 80 3 0 ([]))]) (.exit 0) ([(6,.ls 3 n)]) ([(3,0,.row 80 3 n (vs))])) :
 Fn 60 2 [qax 0 s,.ls 1 l.length] [(0,0,qan s),(1,0,qaa l)] (.tu [.one (.ls 2 n),.one (.pv (iV 0))]) 1 [(2,0,.row 80 3 n (vs))]:=
 Fz [(2,3)] [.ln true 6 0 80 3,Lf r0]
  (qaj (qaB [(2,3)]) [(2,0,.row 80 3 n (vs))]) (Lo r0 [] tI)
theorem qsN {rt z e1:Int} {l:List Pt} {e2:Int} (h1:Fn 17 1 [trS 0 rt l] [(0,0,qaa l)] (.pv (iV (e1))) 0 []) (h2:Fn 52 1 [.ls 0 l.length] [(0,0,qaa l)] (.pv (iV (e2))) 0 []) (he:(e1 !=0)=true) :
 Fn 13 1 [trS 0 rt l,.pv (iV (z))] [(0,0,qaa l)] (.pv (.tuple #[.agg #[iV 0,.slice none 0 0],.agg #[iV 0,.slice none 0 0],iV (e1)])) 0 []:=
 Fz [] [.md,Cf h1 [0],Cf h2 [0],.k,.k,.t true,.t true]
  tI (Co h1 [0] 4 (Co h2 [0] 4 (Ai he (Ai he tI))))
abbrev qil (l:List Pt) (rt:Int):Prop:=Fn 17 1 [trS 0 rt l] [(0,0,qaa l)] (.pv (iV (0))) 0 []
theorem qsy {rt z:Int} {l:List Pt} {e2:Int} (h1:qil l rt) (h2:Fn 52 1 [.ls 0 l.length] [(0,0,qaa l)] (.pv (iV (e2))) 0 []) (he:(e2 !=0)=true) :
 Fn 13 1 [trS 0 rt l,.pv (iV (z))] [(0,0,qaa l)] (.pv (.tuple #[.agg #[iV 0,.slice none 0 0],.agg #[iV 0,.slice none 0 0],iV (e2)])) 0 []:=
 Fz [] [.md,Cf h1 [0],Cf h2 [0],.k,.k,.k,.k,.k,.t true,.t true]
  tI (Co h1 [0] 4 (Co h2 [0] 4 (Ai he (Ai he tI))))
abbrev qlo (l:List Pt):Prop:=Fn 52 1 [.ls 0 l.length] [(0,0,qaa l)] (.pv (iV (0))) 0 []
theorem qq8 {rt y z v:Int} {l n1 n2:List Pt} {n:Nat} {p1 p2:Pt} {x1 y1:Int} (h1:qil l rt) (h2:qlo l) (hcl:Fn 53 1 [.ls 0 l.length] [(0,0,qaa l)] (.ls 1 l.length) 1 [(1,0,qaa l)]) (hp:FnO Try.prog 54 0 1 [.ls 0 l.length,.pv (iV (rt)),.pv (iV (z))] [(0,0,.row 26 3 l.length (qah l))] (.pv (.tuple #[iV (x1),iV (y1)])) 0 [(0,0,.row 26 3 l.length (qah n1))]) (hle:Fn 55 1 [.ls 0 l.length,.pv (iV (z))] [(0,0,.row 26 3 l.length (qah n1))] (.pv (iV (n:Int))) 0 []) (t1:True) (p0:0≤(n:Int)) (p1:0≤n) (p2:n≤l.length) (hn1:iV (IntKind.i64.wrap (0-(n:Int)))=iV (v)) (hfu:Pure Try.prog 57 #[iV (y1),iV (v)] (iV (y))) (hn2:iV (IntKind.i64.wrap (0-(n:Int)))=iV (v)) (hsh:Fn 58 1 [.lq 0 3 (0+n) (l.length-n),.pv (iV (v))] [(0,0,.row 26 3 l.length (qah n1))] (.ls 1 n2.length) 1 [(1,0,qaa n2)]) :
 Fn 13 1 [trS 0 rt l,.pv (iV (z))] [(0,0,qaa l)] (.tu [.ag [.pv (iV x1),.lq 1 3 0 n],.ag [.pv (iV y),.ls 2 n2.length],.one (.pv (iV 0))]) 2 [(1,0,.row 26 3 l.length (qah n1)),(2,0,qaa n2)]:=
 Fz [(1,5),(2,6)] [.md,Cf h1 [0],Cf h2 [0],.k,.k,.k,.k,.k,.k,.k,.k,.k,Cf hcl [0],.fo 0 [5] [.ls 0 l.length,.pv (iV (rt)),.pv (iV (z))] [(0,0,.row 26 3 l.length (qah l))] (.pv (.tuple #[iV (x1),iV (y1)])) 0 [(0,0,.row 26 3 l.length (qah n1))],Cf hle [5],.k,.k,.md,Re hn1,Rf hfu,.k,Re hn1,Cf hsh [5]]
  (qaj (qaB [(1,5),(2,6)]) [(1,0,.row 26 3 l.length (qah n1)),(2,0,qaa n2)]) (Co h1 [0] 4 (Co h2 [0] 4 (Co hcl [0] 5 (Ai hp (Ai (Eq.refl (List.map (SV.ren (qaq [5] 6)) [.ls 0 l.length,.pv (iV (rt)),.pv (iV (z))])) (Ai (qaj (qaq [5] 6) [(0,0,.row 26 3 l.length (qah l))]) (Co hle [5] 6 (Ai t1 (Ai p0 (Ai p1 (Ai p2 (Ai t1 (Ai p0 (Ai p0 (Ai p1 (Ai (Nat.le_refl n) (Ai (Nat.le_refl n) (Ai hn1 (Ai hfu (Ai p0 (Ai t1 (Ai p2 (Ai (Nat.le_refl l.length) (Ai hn2 (Co hsh [5] 6 tI)))))))))))))))))))))))))
abbrev qit (l:List Pt) (m:List Pt) (s:List Pt):HpL:=[(0,0,qaa l),(1,0,qaa m),(2,0,qan s)]
abbrev qi6 (e5:Int) (s:List Pt):Prop:=Fn 47 1 [qax 0 s] [(0,0,qan s)] (.pv (iV (e5))) 0 []
abbrev qkO (e4:Int) (m:List Pt):Prop:=Fn 52 1 [.ls 0 m.length] [(0,0,qaa m)] (.pv (iV (e4))) 0 []
abbrev qid (e6:Int) (td:Int) (tn:Int):Prop:=Pure Try.prog 48 #[qad tn td] (iV (e6))
abbrev qpu (e3:Int) (l:List Pt):Prop:=Fn 52 1 [.ls 0 l.length] [(0,0,qaa l)] (.pv (iV (e3))) 0 []
theorem qtx {rt x tn td e1:Int} {s l m:List Pt} {e5 e6:Int} {e2 e3 e4:Int} (h1:Fn 17 1 [trS 0 rt l] [(0,0,qaa l)] (.pv (iV (e1))) 0 []) (h2:Fn 17 1 [trS 0 x m] [(0,0,qaa m)] (.pv (iV (e2))) 0 []) (h3:qpu e3 l) (h4:qkO e4 m) (h5:qi6 e5 s) (h6:qid e6 td tn) (he:(e1 !=0)=true) :
 Fn 14 3 [trS 0 rt l,trS 1 x m,qax 2 s,.pv (qad tn td)] (qit l m s) (.pv (.tuple #[.agg #[iV 0,.slice none 0 0],iV (e1)])) 0 []:=
 Fz [] [.md,Cf h1 [0],Cf h2 [1],Cf h3 [0],Cf h4 [1],Cf h5 [2],Rf h6,.k,.k,.t true,.t true]
  tI (Co h1 [0] 8 (Co h2 [1] 8 (Co h3 [0] 8 (Co h4 [1] 8 (Co h5 [2] 8 (Ai h6 (Ai he (Ai he tI))))))))
theorem qsm {rt x tn td:Int} {s l m:List Pt} {e5 e6:Int} {e2 e3 e4:Int} (h1:qil l rt) (h2:Fn 17 1 [trS 0 x m] [(0,0,qaa m)] (.pv (iV (e2))) 0 []) (h3:qpu e3 l) (h4:qkO e4 m) (h5:qi6 e5 s) (h6:qid e6 td tn) (he:(e2 !=0)=true) :
 Fn 14 3 [trS 0 rt l,trS 1 x m,qax 2 s,.pv (qad tn td)] (qit l m s) (.pv (.tuple #[.agg #[iV 0,.slice none 0 0],iV (e2)])) 0 []:=
 Fz [] [.md,Cf h1 [0],Cf h2 [1],Cf h3 [0],Cf h4 [1],Cf h5 [2],Rf h6,.k,.k,.k,.k,.k,.t true,.t true]
  tI (Co h1 [0] 8 (Co h2 [1] 8 (Co h3 [0] 8 (Co h4 [1] 8 (Co h5 [2] 8 (Ai h6 (Ai he (Ai he tI))))))))
abbrev qk0 (m:List Pt) (x:Int):Prop:=Fn 17 1 [trS 0 x m] [(0,0,qaa m)] (.pv (iV (0))) 0 []
theorem qsD {rt x tn td:Int} {s l m:List Pt} {e5 e6:Int} {e3 e4:Int} (h1:qil l rt) (h2:qk0 m x) (h3:qpu e3 l) (h4:qkO e4 m) (h5:qi6 e5 s) (h6:qid e6 td tn) (he:(e3 !=0)=true) :
 Fn 14 3 [trS 0 rt l,trS 1 x m,qax 2 s,.pv (qad tn td)] (qit l m s) (.pv (.tuple #[.agg #[iV 0,.slice none 0 0],iV (e3)])) 0 []:=
 Fz [] [.md,Cf h1 [0],Cf h2 [1],Cf h3 [0],Cf h4 [1],Cf h5 [2],Rf h6,.k,.k,.k,.k,.k,.k,.k,.k,.t true,.t true]
  tI (Co h1 [0] 8 (Co h2 [1] 8 (Co h3 [0] 8 (Co h4 [1] 8 (Co h5 [2] 8 (Ai h6 (Ai he (Ai he tI))))))))
theorem qsL {rt x tn td:Int} {s l m:List Pt} {e5 e6:Int} {e4:Int} (h1:qil l rt) (h2:qk0 m x) (h3:qlo l) (h4:qkO e4 m) (h5:qi6 e5 s) (h6:qid e6 td tn) (he:(e4 !=0)=true) :
 Fn 14 3 [trS 0 rt l,trS 1 x m,qax 2 s,.pv (qad tn td)] (qit l m s) (.pv (.tuple #[.agg #[iV 0,.slice none 0 0],iV (e4)])) 0 []:=
 Fz [] [.md,Cf h1 [0],Cf h2 [1],Cf h3 [0],Cf h4 [1],Cf h5 [2],Rf h6,.k,.k,.k,.k,.k,.k,.k,.k,.k,.k,.k,.t true,.t true]
  tI (Co h1 [0] 8 (Co h2 [1] 8 (Co h3 [0] 8 (Co h4 [1] 8 (Co h5 [2] 8 (Ai h6 (Ai he (Ai he tI))))))))
abbrev qo4 (m:List Pt):Prop:=Fn 52 1 [.ls 0 m.length] [(0,0,qaa m)] (.pv (iV (0))) 0 []
theorem qsU {rt x tn td:Int} {s l m:List Pt} {e5 e6:Int} (h1:qil l rt) (h2:qk0 m x) (h3:qlo l) (h4:qo4 m) (h5:qi6 e5 s) (h6:qid e6 td tn) (he:(e5 !=0)=true) :
 Fn 14 3 [trS 0 rt l,trS 1 x m,qax 2 s,.pv (qad tn td)] (qit l m s) (.pv (.tuple #[.agg #[iV 0,.slice none 0 0],iV (e5)])) 0 []:=
 Fz [] [.md,Cf h1 [0],Cf h2 [1],Cf h3 [0],Cf h4 [1],Cf h5 [2],Rf h6,.k,.k,.k,.k,.k,.k,.k,.k,.k,.k,.k,.k,.k,.k,.t true,.t true]
  tI (Co h1 [0] 8 (Co h2 [1] 8 (Co h3 [0] 8 (Co h4 [1] 8 (Co h5 [2] 8 (Ai h6 (Ai he (Ai he tI))))))))
abbrev qpC (s:List Pt):Prop:=Fn 47 1 [qax 0 s] [(0,0,qan s)] (.pv (iV (0))) 0 []
theorem qte {rt x tn td:Int} {s l m:List Pt} {e6:Int} (h1:qil l rt) (h2:qk0 m x) (h3:qlo l) (h4:qo4 m) (h5:qpC s) (h6:qid e6 td tn) (he:(e6 !=0)=true) :
 Fn 14 3 [trS 0 rt l,trS 1 x m,qax 2 s,.pv (qad tn td)] (qit l m s) (.pv (.tuple #[.agg #[iV 0,.slice none 0 0],iV (e6)])) 0 []:=
 Fz [] [.md,Cf h1 [0],Cf h2 [1],Cf h3 [0],Cf h4 [1],Cf h5 [2],Rf h6,.k,.k,.k,.k,.k,.k,.k,.k,.k,.k,.k,.k,.k,.k,.k,.k,.k,.t true,.t true]
  tI (Co h1 [0] 8 (Co h2 [1] 8 (Co h3 [0] 8 (Co h4 [1] 8 (Co h5 [2] 8 (Ai h6 (Ai he (Ai he tI))))))))
abbrev qrC (l:List Pt) (n1:List Pt) (n2:List Pt):Prop:=Fn 59 3 [.ps 2 0 2 2] [(2,0,.ls 0 l.length),(2,1,.ls 1 n2.length),(0,0,qaa l),(1,0,qaa n2)] (.ls 3 n1.length) 1 [(3,0,qaa n1)]
abbrev qpT (l:List Pt) (m:List Pt) (n2:List Pt):Prop:=Fn 58 1 [.ls 0 m.length,.pv (iV (l.length:Int))] [(0,0,qaa m)] (.ls 1 n2.length) 1 [(1,0,qaa n2)]
abbrev qtk (d:List Pt) (n1:List Pt) (s:List Pt):Prop:=Fn 60 2 [qax 0 s,.ls 1 n1.length] [(0,0,qan s),(1,0,qaa n1)] (.tu [.one (.ls 2 d.length),.one (.pv (iV 0))]) 1 [(2,0,qan d)]
abbrev qjr (td:Int) (tn:Int):Prop:=Pure Try.prog 48 #[qad tn td] (iV (0))
abbrev qoo (e4:Int) (n1:List Pt):Prop:=Fn 52 1 [.ls 0 n1.length] [(0,0,qaa n1)] (.pv (iV (e4))) 0 []
theorem qlI {rt x tn td:Int} {s l m n1 n2:List Pt} {e4:Int} {d:List Pt} (h1:qil l rt) (h2:qk0 m x) (h3:qlo l) (h4:qo4 m) (h5:qpC s) (h6:qjr td tn) (hsh:qpT l m n2) (hca:qrC l n1 n2) (hpo:qtk d n1 s) (h7:Fn 61 1 [.ls 0 n1.length] [(0,0,qaa n1)] (.pv (iV (4))) 0 []) (h8:qoo e4 n1) :
 Fn 14 3 [trS 0 rt l,trS 1 x m,qax 2 s,.pv (qad tn td)] (qit l m s) (.pv (.tuple #[.agg #[iV 0,.slice none 0 0],iV (4)])) 0 []:=
 Fz [] [.md,Cf h1 [0],Cf h2 [1],Cf h3 [0],Cf h4 [1],Cf h5 [2],Rf h6,.k,.k,.k,.k,.k,.k,.k,.k,.k,.k,.k,.k,.k,.k,.k,.k,.k,.k,.k,.k,.k,.md,Cf hsh [1],Cf hca [0,9,10],Cf hpo [2,11],Cf h7 [11],Cf h8 [11],.k,.k,.k,.k]
  tI (Co h1 [0] 8 (Co h2 [1] 8 (Co h3 [0] 8 (Co h4 [1] 8 (Co h5 [2] 8 (Ai h6 (Co hsh [1] 9 (Co hca [0,9,10] 11 (Co hpo [2,11] 12 (Co h7 [11] 13 (Co h8 [11] 13 tI)))))))))))
theorem qjR {rt x tn td e:Int} {s l m n1 n2:List Pt} {e4:Int} (h1:qil l rt) (h2:qk0 m x) (h3:qlo l) (h4:qo4 m) (h5:qpC s) (h6:qjr td tn) (hsh:qpT l m n2) (hca:qrC l n1 n2) (hpo:Fn 60 2 [qax 0 s,.ls 1 n1.length] [(0,0,qan s),(1,0,qaa n1)] (.pv (.tuple #[.slice none 0 0,iV (e)])) 0 []) (h7:Fn 61 1 [.ls 0 n1.length] [(0,0,qaa n1)] (.pv (iV (4))) 0 []) (h8:qoo e4 n1) :
 Fn 14 3 [trS 0 rt l,trS 1 x m,qax 2 s,.pv (qad tn td)] (qit l m s) (.pv (.tuple #[.agg #[iV 0,.slice none 0 0],iV (4)])) 0 []:=
 Fz [] [.md,Cf h1 [0],Cf h2 [1],Cf h3 [0],Cf h4 [1],Cf h5 [2],Rf h6,.k,.k,.k,.k,.k,.k,.k,.k,.k,.k,.k,.k,.k,.k,.k,.k,.k,.k,.k,.k,.k,.md,Cf hsh [1],Cf hca [0,9,10],Cf hpo [2,11],Cf h7 [11],Cf h8 [11],.k,.k,.k,.k]
  tI (Co h1 [0] 8 (Co h2 [1] 8 (Co h3 [0] 8 (Co h4 [1] 8 (Co h5 [2] 8 (Ai h6 (Co hsh [1] 9 (Co hca [0,9,10] 11 (Co hpo [2,11] 12 (Co h7 [11] 12 (Co h8 [11] 12 tI)))))))))))
abbrev qoF (n1:List Pt):Prop:=Fn 61 1 [.ls 0 n1.length] [(0,0,qaa n1)] (.pv (iV (0))) 0 []
theorem qlX {rt x tn td e:Int} {s l m n1 n2:List Pt} {e4:Int} (h1:qil l rt) (h2:qk0 m x) (h3:qlo l) (h4:qo4 m) (h5:qpC s) (h6:qjr td tn) (hsh:qpT l m n2) (hca:qrC l n1 n2) (hpo:Fn 60 2 [qax 0 s,.ls 1 n1.length] [(0,0,qan s),(1,0,qaa n1)] (.pv (.tuple #[.slice none 0 0,iV (e)])) 0 []) (h7:qoF n1) (h8:qoo e4 n1) (hee:(e !=0)=true) :
 Fn 14 3 [trS 0 rt l,trS 1 x m,qax 2 s,.pv (qad tn td)] (qit l m s) (.pv (.tuple #[.agg #[iV 0,.slice none 0 0],iV (e)])) 0 []:=
 Fz [] [.md,Cf h1 [0],Cf h2 [1],Cf h3 [0],Cf h4 [1],Cf h5 [2],Rf h6,.k,.k,.k,.k,.k,.k,.k,.k,.k,.k,.k,.k,.k,.k,.k,.k,.k,.k,.k,.k,.k,.md,Cf hsh [1],Cf hca [0,9,10],Cf hpo [2,11],Cf h7 [11],Cf h8 [11],.k,.k,.k,.k,.k,.t true,.t true]
  tI (Co h1 [0] 8 (Co h2 [1] 8 (Co h3 [0] 8 (Co h4 [1] 8 (Co h5 [2] 8 (Ai h6 (Co hsh [1] 9 (Co hca [0,9,10] 11 (Co hpo [2,11] 12 (Co h7 [11] 12 (Co h8 [11] 12 (Ai hee (Ai hee tI)))))))))))))
theorem qol {rt x tn td:Int} {s l m n1 n2:List Pt} {d:List Pt} (h1:qil l rt) (h2:qk0 m x) (h3:qlo l) (h4:qo4 m) (h5:qpC s) (h6:qjr td tn) (hsh:qpT l m n2) (hca:qrC l n1 n2) (hpo:qtk d n1 s) (h7:qoF n1) (h8:Fn 52 1 [.ls 0 n1.length] [(0,0,qaa n1)] (.pv (iV (32))) 0 []) :
 Fn 14 3 [trS 0 rt l,trS 1 x m,qax 2 s,.pv (qad tn td)] (qit l m s) (.pv (.tuple #[.agg #[iV 0,.slice none 0 0],iV (32)])) 0 []:=
 Fz [] [.md,Cf h1 [0],Cf h2 [1],Cf h3 [0],Cf h4 [1],Cf h5 [2],Rf h6,.k,.k,.k,.k,.k,.k,.k,.k,.k,.k,.k,.k,.k,.k,.k,.k,.k,.k,.k,.k,.k,.md,Cf hsh [1],Cf hca [0,9,10],Cf hpo [2,11],Cf h7 [11],Cf h8 [11],.k,.k,.k,.k,.k,.k,.k,.k,.k,.k]
  tI (Co h1 [0] 8 (Co h2 [1] 8 (Co h3 [0] 8 (Co h4 [1] 8 (Co h5 [2] 8 (Ai h6 (Co hsh [1] 9 (Co hca [0,9,10] 11 (Co hpo [2,11] 12 (Co h7 [11] 13 (Co h8 [11] 13 tI)))))))))))
theorem qqX {rt x z tn td:Int} {s l m n1 n2:List Pt} {n3 d:List Pt} {x1:Int} (h1:qil l rt) (h2:qk0 m x) (h3:qlo l) (h4:qo4 m) (h5:qpC s) (h6:qjr td tn) (hsh:qpT l m n2) (hca:qrC l n1 n2) (hpo:qtk d n1 s) (h7:qoF n1) (h8:Fn 52 1 [.ls 0 n1.length] [(0,0,qaa n1)] (.pv (iV (0))) 0 []) (hfu:Pure Try.prog 57 #[iV (x),iV (l.length:Int)] (iV (x1))) (hj:FnO Try.prog 62 1 2 [.ag [.ls 1 n1.length,.ls 0 d.length,.pv (iV tn),.pv (iV td)],.pv (iV (rt)),.pv (iV (x1))] [(0,0,qan d),(1,0,qaa n1)] (.pv (iV (z))) 0 [(1,0,.row 26 3 n1.length (qah n3))]) :
 Fn 14 3 [trS 0 rt l,trS 1 x m,qax 2 s,.pv (qad tn td)] (qit l m s) (.tu [.ag [.pv (iV z),.ls 3 n1.length],.one (.pv (iV 0))]) 1 [(3,0,.row 26 3 n1.length (qah n3))]:=
 Fz [(3,11)] [.md,Cf h1 [0],Cf h2 [1],Cf h3 [0],Cf h4 [1],Cf h5 [2],Rf h6,.k,.k,.k,.k,.k,.k,.k,.k,.k,.k,.k,.k,.k,.k,.k,.k,.k,.k,.k,.k,.k,.md,Cf hsh [1],Cf hca [0,9,10],Cf hpo [2,11],Cf h7 [11],Cf h7 [11],.k,.k,.k,.k,.k,.k,.k,.k,.k,.k,.k,.k,.gh [(3,0),(4,0),(6,0),(6,1)],Rf hfu,.fo 1 [12,11] [.ag [.ls 1 n1.length,.ls 0 d.length,.pv (iV tn),.pv (iV td)],.pv (iV (rt)),.pv (iV (x1))] [(0,0,qan d),(1,0,qaa n1)] (.pv (iV (z))) 0 [(1,0,.row 26 3 n1.length (qah n3))]]
  (qaj (qaB [(3,11)]) [(3,0,.row 26 3 n1.length (qah n3))]) (Co h1 [0] 8 (Co h2 [1] 8 (Co h3 [0] 8 (Co h4 [1] 8 (Co h5 [2] 8 (Ai h6 (Co hsh [1] 9 (Co hca [0,9,10] 11 (Co hpo [2,11] 12 (Co h7 [11] 13 (Co h8 [11] 13 (Ai (Er (SV.pv (iV rt))) (Ai (Er (SV.pv (iV x))) (Ai (Er (SV.pv (iV tn))) (Ai (Er (SV.pv (iV td))) (Ai hfu (Ai (Er (SV.pv (iV rt))) (Ai (Er (SV.pv (iV x))) (Ai (Er (SV.pv (iV tn))) (Ai (Er (SV.pv (iV td))) (Ai hj (Ai (Eq.refl (List.map (SV.ren (qaq [12,11] 14)) [.ag [.ls 1 n1.length,.ls 0 d.length,.pv (iV tn),.pv (iV td)],.pv (iV (rt)),.pv (iV (x1))])) (Ai (qaj (qaq [12,11] 14) [(0,0,qan d),(1,0,qaa n1)]) (Ai (Er (SV.pv (iV rt))) (Ai (Er (SV.pv (iV x))) (Ai (Er (SV.pv (iV tn))) (Ai (Er (SV.pv (iV td))) (Ai (Er (SV.pv (iV rt))) (Ai (Er (SV.pv (iV x))) (Ai (Er (SV.pv (iV tn))) (Ai (Er (SV.pv (iV td))) tI)))))))))))))))))))))))))))))))
end Go.Proofs.Ytalnjplghagbpaa

namespace Go.Proofs.Ytalnjplghagbpaa
set_option maxRecDepth 100000
open Go.RowKit
abbrev qoL (l:List Pt) (rt:Int):Prop:=Fn 96 1 [trS 0 rt l,.pv (iV (rt)),.pv (.slice none 0 0)] [(0,0,qaa l)] (.pv (.slice none 0 0)) 0 []
theorem qoY {rt:Int} {l:List Pt} (hw:qoL l rt) :
 Fn 73 1 [trS 0 rt l] [(0,0,qaa l)] (.pv (.slice none 0 0)) 0 []:=
 Fz [] [Cf hw [0]]
  tI (Co hw [0] 2 tI)
abbrev qn9 (g:List Int) (l:List Pt) (rt:Int):Prop:=Fn 96 1 [trS 0 rt l,.pv (iV (rt)),.pv (.slice none 0 0)] [(0,0,qaa l)] (.ls 1 g.length) 1 [(1,0,zrI g)]
theorem qp8 {rt:Int} {l:List Pt} {g:List Int} (hw:qn9 g l rt) :
 Fn 73 1 [trS 0 rt l] [(0,0,qaa l)] (.ls 1 g.length) 1 [(1,0,zrI g)]:=
 Fz [(1,2)] [Cf hw [0]]
  (qaj (qaB [(1,2)]) [(1,0,zrI g)]) (Co hw [0] 2 tI)
theorem qn3 {rt:Int} {l:List Pt} (hw:qoL l rt) (he:((0:Int)==(l.length:Int))=true) :
 Fn 72 1 [trS 0 rt l] [(0,0,qaa l)] (.pv (.bool true)) 0 []:=
 Fz [] [.md,Cf hw [0],.t true]
  tI (Co hw [0] 2 (Ai he tI))
theorem qmf {rt:Int} {l:List Pt} (hw:qoL l rt) (he:((0:Int)==(l.length:Int))=false) :
 Fn 72 1 [trS 0 rt l] [(0,0,qaa l)] (.pv (.bool false)) 0 []:=
 Fz [] [.md,Cf hw [0],.t false]
  tI (Co hw [0] 2 (Ai he tI))
theorem qlR {rt:Int} {l:List Pt} {g:List Int} (hw:qn9 g l rt) (he:((g.length:Int)==(l.length:Int))=true) :
 Fn 72 1 [trS 0 rt l] [(0,0,qaa l)] (.pv (.bool true)) 0 []:=
 Fz [] [.md,Cf hw [0],.t true]
  tI (Co hw [0] 2 (Ai he tI))
theorem qkf {rt:Int} {l:List Pt} {g:List Int} (hw:qn9 g l rt) (he:((g.length:Int)==(l.length:Int))=false) :
 Fn 72 1 [trS 0 rt l] [(0,0,qaa l)] (.pv (.bool false)) 0 []:=
 Fz [] [.md,Cf hw [0],.t false]
  tI (Co hw [0] 2 (Ai he tI))
theorem qlV {rt:Int} {l:List Pt} (hm:decide ((l.length:Int)>64)=true) :
 Fn 34 1 [trS 0 rt l] [(0,0,qaa l)] (.pv (iV (4))) 0 []:=
 Fz [] [.t true]
  tI (Ai hm tI)
theorem qk7 {rt:Int} {l:List Pt} (hm:decide ((l.length:Int)>64)=false) (hl:Fn 70 1 [trS 0 rt l,.pv (iV (rt))] [(0,0,qaa l)] (.pv (.bool false)) 0 []) :
 Fn 34 1 [trS 0 rt l] [(0,0,qaa l)] (.pv (iV (8))) 0 []:=
 Fz [] [.t false,Cf hl [0],.k]
  tI (Ai hm (Co hl [0] 2 tI))
abbrev qif (l:List Pt) (rt:Int):Prop:=Fn 70 1 [trS 0 rt l,.pv (iV (rt))] [(0,0,qaa l)] (.pv (.bool true)) 0 []
theorem qim {rt:Int} {l:List Pt} (hm:decide ((l.length:Int)>64)=false) (hl:qif l rt) (hr:(rt==(-1))=true) (h0:((l.length:Int)==0)=false) :
 Fn 34 1 [trS 0 rt l] [(0,0,qaa l)] (.pv (iV (8))) 0 []:=
 Fz [] [.t false,Cf hl [0],.k,.t true,.t false,.k]
  tI (Ai hm (Co hl [0] 2 (Ai hr (Ai h0 tI))))
theorem qhp {rt:Int} {l:List Pt} (hm:decide ((l.length:Int)>64)=false) (hl:qif l rt) (hr:(rt==(-1))=false) (h0:((l.length:Int)==0)=true) :
 Fn 34 1 [trS 0 rt l] [(0,0,qaa l)] (.pv (iV (8))) 0 []:=
 Fz [] [.t false,Cf hl [0],.k,.t false,.t true,.k]
  tI (Ai hm (Co hl [0] 2 (Ai hr (Ai h0 tI))))
abbrev qmz (l:List Pt) (rt:Int):HpL:=[(1,0,.pv (iV rt)),(1,1,.ls 0 l.length),(0,0,qaa l)]
abbrev qhl (k:Nat):TmL:=[(1,.pp 1 0),(3,.pv (iV (k:Int)))]
theorem qp6 {rt:Int} {l:List Pt} {p:Pt} {k:Nat} (hlt:decide ((k:Int)<(l.length:Int))=true) (hk:l[k]?=some p) (hin:0≤(k:Int)∧(k:Int)<(l.length:Int)) (ha:Fn 70 1 [trS 0 rt l,.pv (iV (p.a))] [(0,0,qaa l)] (.pv (.bool false)) 0 []):Rl 1 1 34 0 96 2 (qhl k) (qmz l rt) (.ret) ([(2,.pv (iV 8))]) ([]):=
 RunsL.stop [] 300 [.t true,.r (ptV p),Cf ha [0],.k] (fun h=>by cases h)
  (Ro (Ai hlt (Ai hin (Ai (qa0 hk) (Co ha [0] 3 tI)))))
abbrev qmc (l:List Pt) (p:Pt) (rt:Int):Prop:=Fn 70 1 [trS 0 rt l,.pv (iV (p.a))] [(0,0,qaa l)] (.pv (.bool true)) 0 []
theorem qpQ {rt:Int} {l:List Pt} {p:Pt} {k:Nat} (hlt:decide ((k:Int)<(l.length:Int))=true) (hk:l[k]?=some p) (hin:0≤(k:Int)∧(k:Int)<(l.length:Int)) (ha:qmc l p rt) (hb:Fn 70 1 [trS 0 rt l,.pv (iV (p.b))] [(0,0,qaa l)] (.pv (.bool false)) 0 []):Rl 1 1 34 0 96 2 (qhl k) (qmz l rt) (.ret) ([(2,.pv (iV 8))]) ([]):=
 RunsL.stop [] 300 [.t true,.r (ptV p),Cf ha [0],.k,Cf hb [0],.k] (fun h=>by cases h)
  (Ro (Ai hlt (Ai hin (Ai (qa0 hk) (Co ha [0] 3 (Co hb [0] 3 tI))))))
abbrev qo3 (l:List Pt) (p:Pt) (rt:Int):Prop:=Fn 70 1 [trS 0 rt l,.pv (iV (p.b))] [(0,0,qaa l)] (.pv (.bool true)) 0 []
theorem qrz {rt:Int} {l:List Pt} {p:Pt} {k:Nat} (hlt:decide ((k:Int)<(l.length:Int))=true) (hk:l[k]?=some p) (hin:0≤(k:Int)∧(k:Int)<(l.length:Int)) (ha:qmc l p rt) (hb:qo3 l p rt) (h1:decide (p.id<0)=true):Rl 1 1 34 0 96 2 (qhl k) (qmz l rt) (.ret) ([(2,.pv (iV 8))]) ([]):=
 RunsL.stop [] 300 [.t true,.r (ptV p),Cf ha [0],.k,Cf hb [0],.k,.t true] (fun h=>by cases h)
  (Ro (Ai hlt (Ai hin (Ai (qa0 hk) (Co ha [0] 3 (Co hb [0] 3 (Ai h1 tI)))))))
theorem qqk {rt:Int} {l:List Pt} {p:Pt} {k:Nat} (hlt:decide ((k:Int)<(l.length:Int))=true) (hk:l[k]?=some p) (hin:0≤(k:Int)∧(k:Int)<(l.length:Int)) (ha:qmc l p rt) (hb:qo3 l p rt) (h1:decide (p.id<0)=false) (h2:decide (p.id>65535)=true):Rl 1 1 34 0 96 2 (qhl k) (qmz l rt) (.ret) ([(2,.pv (iV 8))]) ([]):=
 RunsL.stop [] 300 [.t true,.r (ptV p),Cf ha [0],.k,Cf hb [0],.k,.t false,.t true] (fun h=>by cases h)
  (Ro (Ai hlt (Ai hin (Ai (qa0 hk) (Co ha [0] 3 (Co hb [0] 3 (Ai h1 (Ai h2 tI))))))))
theorem ql7 {rt:Int} {l:List Pt} {p:Pt} {k:Nat} (hlt:decide ((k:Int)<(l.length:Int))=true) (hk:l[k]?=some p) (hin:0≤(k:Int)∧(k:Int)<(l.length:Int)) (ha:qmc l p rt) (hb:qo3 l p rt) (h1:decide (p.id<0)=false) (h2:decide (p.id>65535)=false) (hs:iV (IntKind.i64.wrap ((k:Int)+1))=iV (((k+1:Nat):Int))) {e:Exit} {tm2:TmL} {hp2:HpL}
 (r:Rl 1 1 34 0 96 2 ([(1,.pp 1 0),(3,.pv (iV ((k+1:Nat):Int)))]) (qmz l rt) e tm2 hp2):Rl 1 1 34 0 96 2 (qhl k) (qmz l rt) e tm2 hp2:=
 RunsL.next [] 300 [.t true,.r (ptV p),Cf ha [0],.k,Cf hb [0],.k,.t false,.t false,Re hs]
  (Ro (Ai hlt (Ai hin (Ai (qa0 hk) (Co ha [0] 3 (Co hb [0] 3 (Ai h1 (Ai h2 (Ai hs tI))))))))) r
theorem qnM {rt:Int} {l:List Pt} {k:Nat} (hlt:decide ((k:Int)<(l.length:Int))=false):Rl 1 1 34 0 96 2 (qhl k) (qmz l rt) (.exit 0) ([(1,.pp 1 0)]) (qmz l rt):=
 RunsL.stop [] 300 [.t false] (fun h=>by cases h)
  (Ro (Ai hlt tI))
abbrev qm4 (g:List Int) (l:List Pt) (rt:Int):HpL:=[(1,0,.pv (iV rt)),(1,1,.ls 0 l.length),(0,0,qaa l),(2,0,zrI g)]
theorem qir {rt y z:Int} {l:List Pt} {p q:Pt} {g:List Int} {j k:Nat} (hlt:decide ((k:Int)<(g.length:Int))=true) (hs1:iV (IntKind.i64.wrap ((k:Int)-1))=iV (j:Int)) (hji:0≤(j:Int)∧(j:Int)<(g.length:Int)) (hgj:g[j]?=some y) (hyi:0≤y∧y<(l.length:Int)) (hp:l[y.toNat]?=some p) (hki:0≤(k:Int)∧(k:Int)<(g.length:Int)) (hgk:g[k]?=some z) (hzi:0≤z∧z<(l.length:Int)) (hq:l[z.toNat]?=some q) (hc:decide (p.id≥q.id)=false) (hs:iV (IntKind.i64.wrap ((k:Int)+1))=iV (((k+1:Nat):Int))) {e:Exit} {tm2:TmL} {hp2:HpL}
 (r:Rl 1 1 34 1 96 3 ([(1,.pp 1 0),(5,.ls 2 g.length),(6,.pv (iV ((k+1:Nat):Int)))]) (qm4 g l rt) e tm2 hp2):Rl 1 1 34 1 96 3 ([(1,.pp 1 0),(5,.ls 2 g.length),(6,.pv (iV (k:Int)))]) (qm4 g l rt) e tm2 hp2:=
 RunsL.next [] 300 [.t true,Re hs1,.r (iV y),.r (iV p.id),.r (iV z),.r (iV q.id),.t false,Re hs]
  (Ro (Ai hlt (Ai hs1 (Ai hji (Ai (qih hgj) (Ai hyi (Ai (qaM hp) (Ai hki (Ai (qih hgk) (Ai hzi (Ai (qaM hq) (Ai hc (Ai hs tI))))))))))))) r
theorem qlq {rt y z:Int} {l:List Pt} {p q:Pt} {g:List Int} {j k:Nat} (hlt:decide ((k:Int)<(g.length:Int))=true) (hs1:iV (IntKind.i64.wrap ((k:Int)-1))=iV (j:Int)) (hji:0≤(j:Int)∧(j:Int)<(g.length:Int)) (hgj:g[j]?=some y) (hyi:0≤y∧y<(l.length:Int)) (hp:l[y.toNat]?=some p) (hki:0≤(k:Int)∧(k:Int)<(g.length:Int)) (hgk:g[k]?=some z) (hzi:0≤z∧z<(l.length:Int)) (hq:l[z.toNat]?=some q) (hc:decide (p.id≥q.id)=true):Rl 1 1 34 1 96 3 ([(1,.pp 1 0),(5,.ls 2 g.length),(6,.pv (iV (k:Int)))]) (qm4 g l rt) (.ret) ([(2,.pv (iV 8))]) ([]):=
 RunsL.stop [] 300 [.t true,Re hs1,.r (iV y),.r (iV p.id),.r (iV z),.r (iV q.id),.t true] (fun h=>by cases h)
  (Ro (Ai hlt (Ai hs1 (Ai hji (Ai (qih hgj) (Ai hyi (Ai (qaM hp) (Ai hki (Ai (qih hgk) (Ai hzi (Ai (qaM hq) (Ai hc tI))))))))))))
theorem qgF {rt:Int} {l:List Pt} {g:List Int} {k:Nat} (hlt:decide ((k:Int)<(g.length:Int))=false):Rl 1 1 34 1 96 3 ([(1,.pp 1 0),(5,.ls 2 g.length),(6,.pv (iV (k:Int)))]) (qm4 g l rt) (.exit 2) ([]) ([]):=
 RunsL.stop [] 300 [.t false] (fun h=>by cases h)
  (Ro (Ai hlt tI))
abbrev qqC (l:List Pt) (rt:Int):Prop:=Rl 1 1 34 0 96 2 ([(1,.pp 1 0),(3,.pv (iV ((0:Nat):Int)))]) (qmz l rt) (.ret) ([(2,.pv (iV 8))]) ([])
theorem ql6 {rt:Int} {l:List Pt} (hm:decide ((l.length:Int)>64)=false) (hl:qif l rt) (hr:(rt==(-1))=true) (h0:((l.length:Int)==0)=true) (r0:qqC l rt) :
 Fn 34 1 [trS 0 rt l] [(0,0,qaa l)] (.pv (iV (8))) 0 []:=
 Fz [] [.t false,Cf hl [0],.k,.t true,.t true,.k,Lf r0]
  tI (Ai hm (Co hl [0] 2 (Ai hr (Ai h0 (Lo r0 [] tI)))))
abbrev qm3 (l:List Pt) (rt:Int):Prop:=Rl 1 1 34 0 96 2 ([(1,.pp 1 0),(3,.pv (iV ((0:Nat):Int)))]) ([(1,0,.pv (iV rt)),(1,1,.ls 0 l.length),(0,0,qaa l)]) (.exit 0) ([(1,.pp 1 0)]) ([(1,0,.pv (iV rt)),(1,1,.ls 0 l.length),(0,0,qaa l)])
theorem qiU {rt:Int} {l:List Pt} (hm:decide ((l.length:Int)>64)=false) (hl:qif l rt) (hr:(rt==(-1))=true) (h0:((l.length:Int)==0)=true) (r0:qm3 l rt) (ho:Fn 71 1 [trS 0 rt l] [(0,0,qaa l)] (.pv (.bool false)) 0 []) :
 Fn 34 1 [trS 0 rt l] [(0,0,qaa l)] (.pv (iV (8))) 0 []:=
 Fz [] [.t false,Cf hl [0],.k,.t true,.t true,.k,Lf r0,Cf ho [0],.k]
  tI (Ai hm (Co hl [0] 2 (Ai hr (Ai h0 (Lo r0 [] (Co ho [0] 2 tI))))))
abbrev qpI (l:List Pt) (rt:Int):Prop:=Fn 71 1 [trS 0 rt l] [(0,0,qaa l)] (.pv (.bool true)) 0 []
theorem qhZ {rt:Int} {l:List Pt} (hm:decide ((l.length:Int)>64)=false) (hl:qif l rt) (hr:(rt==(-1))=true) (h0:((l.length:Int)==0)=true) (r0:qm3 l rt) (ho:qpI l rt) (hrc:Fn 72 1 [trS 0 rt l] [(0,0,qaa l)] (.pv (.bool false)) 0 []) :
 Fn 34 1 [trS 0 rt l] [(0,0,qaa l)] (.pv (iV (8))) 0 []:=
 Fz [] [.t false,Cf hl [0],.k,.t true,.t true,.k,Lf r0,Cf ho [0],.k,Cf hrc [0],.k]
  tI (Ai hm (Co hl [0] 2 (Ai hr (Ai h0 (Lo r0 [] (Co ho [0] 2 (Co hrc [0] 2 tI)))))))
abbrev qmh (g:List Int):TmL:=[(1,.pp 1 0),(5,.ls 2 g.length),(6,.pv (iV ((1:Nat):Int)))]
abbrev qlr (g:List Int) (l:List Pt) (rt:Int):Prop:=Fn 73 1 [trS 0 rt l] [(0,0,qaa l)] (.ls 1 g.length) 1 [(1,0,zrI g)]
abbrev qk4 (l:List Pt) (rt:Int):Prop:=Fn 72 1 [trS 0 rt l] [(0,0,qaa l)] (.pv (.bool true)) 0 []
theorem qlp {rt:Int} {l:List Pt} {g:List Int} (hm:decide ((l.length:Int)>64)=false) (hl:qif l rt) (hr:(rt==(-1))=true) (h0:((l.length:Int)==0)=true) (r0:qm3 l rt) (ho:qpI l rt) (hrc:qk4 l rt) (hw:qlr g l rt) (r1:Rl 1 1 34 1 96 3 (qmh g) (qm4 g l rt) (.ret) ([(2,.pv (iV 8))]) ([])) :
 Fn 34 1 [trS 0 rt l] [(0,0,qaa l)] (.pv (iV (8))) 0 []:=
 Fz [] [.t false,Cf hl [0],.k,.t true,.t true,.k,Lf r0,Cf ho [0],.k,Cf ho [0],.k,Cf hw [0],Lf r1]
  tI (Ai hm (Co hl [0] 2 (Ai hr (Ai h0 (Lo r0 [] (Co ho [0] 2 (Co hrc [0] 2 (Co hw [0] 2 (Lo r1 [] tI)))))))))
theorem qoR {rt:Int} {l:List Pt} {g:List Int} (hm:decide ((l.length:Int)>64)=false) (hl:qif l rt) (hr:(rt==(-1))=true) (h0:((l.length:Int)==0)=true) (r0:qm3 l rt) (ho:qpI l rt) (hrc:qk4 l rt) (hw:qlr g l rt) (r1:Rl 1 1 34 1 96 3 (qmh g) (qm4 g l rt) (.exit 2) ([]) ([])) :
 Fn 34 1 [trS 0 rt l] [(0,0,qaa l)] (.pv (iV (0))) 0 []:=
 Fz [] [.t false,Cf hl [0],.k,.t true,.t true,.k,Lf r0,Cf ho [0],.k,Cf ho [0],.k,Cf hw [0],Lf r1]
  tI (Ai hm (Co hl [0] 2 (Ai hr (Ai h0 (Lo r0 [] (Co ho [0] 2 (Co hrc [0] 2 (Co hw [0] 2 (Lo r1 [] tI)))))))))
theorem qlY {rt:Int} {l:List Pt} (hm:decide ((l.length:Int)>64)=false) (hl:qif l rt) (hr:(rt==(-1))=false) (h0:((l.length:Int)==0)=false) (r0:qqC l rt) :
 Fn 34 1 [trS 0 rt l] [(0,0,qaa l)] (.pv (iV (8))) 0 []:=
 Fz [] [.t false,Cf hl [0],.k,.t false,.t false,.k,Lf r0]
  tI (Ai hm (Co hl [0] 2 (Ai hr (Ai h0 (Lo r0 [] tI)))))
theorem qjg {rt:Int} {l:List Pt} (hm:decide ((l.length:Int)>64)=false) (hl:qif l rt) (hr:(rt==(-1))=false) (h0:((l.length:Int)==0)=false) (r0:qm3 l rt) (ho:Fn 71 1 [trS 0 rt l] [(0,0,qaa l)] (.pv (.bool false)) 0 []) :
 Fn 34 1 [trS 0 rt l] [(0,0,qaa l)] (.pv (iV (8))) 0 []:=
 Fz [] [.t false,Cf hl [0],.k,.t false,.t false,.k,Lf r0,Cf ho [0],.k]
  tI (Ai hm (Co hl [0] 2 (Ai hr (Ai h0 (Lo r0 [] (Co ho [0] 2 tI))))))
theorem qhm {rt:Int} {l:List Pt} (hm:decide ((l.length:Int)>64)=false) (hl:qif l rt) (hr:(rt==(-1))=false) (h0:((l.length:Int)==0)=false) (r0:qm3 l rt) (ho:qpI l rt) (hrc:Fn 72 1 [trS 0 rt l] [(0,0,qaa l)] (.pv (.bool false)) 0 []) :
 Fn 34 1 [trS 0 rt l] [(0,0,qaa l)] (.pv (iV (8))) 0 []:=
 Fz [] [.t false,Cf hl [0],.k,.t false,.t false,.k,Lf r0,Cf ho [0],.k,Cf hrc [0],.k]
  tI (Ai hm (Co hl [0] 2 (Ai hr (Ai h0 (Lo r0 [] (Co ho [0] 2 (Co hrc [0] 2 tI)))))))
theorem qkT {rt:Int} {l:List Pt} {g:List Int} (hm:decide ((l.length:Int)>64)=false) (hl:qif l rt) (hr:(rt==(-1))=false) (h0:((l.length:Int)==0)=false) (r0:qm3 l rt) (ho:qpI l rt) (hrc:qk4 l rt) (hw:qlr g l rt) (r1:Rl 1 1 34 1 96 3 (qmh g) (qm4 g l rt) (.ret) ([(2,.pv (iV 8))]) ([])) :
 Fn 34 1 [trS 0 rt l] [(0,0,qaa l)] (.pv (iV (8))) 0 []:=
 Fz [] [.t false,Cf hl [0],.k,.t false,.t false,.k,Lf r0,Cf ho [0],.k,Cf ho [0],.k,Cf hw [0],Lf r1]
  tI (Ai hm (Co hl [0] 2 (Ai hr (Ai h0 (Lo r0 [] (Co ho [0] 2 (Co hrc [0] 2 (Co hw [0] 2 (Lo r1 [] tI)))))))))
theorem qnX {rt:Int} {l:List Pt} {g:List Int} (hm:decide ((l.length:Int)>64)=false) (hl:qif l rt) (hr:(rt==(-1))=false) (h0:((l.length:Int)==0)=false) (r0:qm3 l rt) (ho:qpI l rt) (hrc:qk4 l rt) (hw:qlr g l rt) (r1:Rl 1 1 34 1 96 3 (qmh g) (qm4 g l rt) (.exit 2) ([]) ([])) :
 Fn 34 1 [trS 0 rt l] [(0,0,qaa l)] (.pv (iV (0))) 0 []:=
 Fz [] [.t false,Cf hl [0],.k,.t false,.t false,.k,Lf r0,Cf ho [0],.k,Cf ho [0],.k,Cf hw [0],Lf r1]
  tI (Ai hm (Co hl [0] 2 (Ai hr (Ai h0 (Lo r0 [] (Co ho [0] 2 (Co hrc [0] 2 (Co hw [0] 2 (Lo r1 [] tI)))))))))
abbrev qnL (l:List Pt) (m:List Pt) (n:Nat) (rt:Int) (s:List Pt) (td:Int) (tn:Int) (vs:List Value) (x:Int):HpL:=[(3,0,.pv (iV rt)),(3,1,.ls 0 l.length),(4,0,.pv (iV x)),(4,1,.ls 1 m.length),(5,0,.ls 2 s.length),(6,0,.pv (iV tn)),(6,1,.pv (iV td)),(7,0,.pv (iV 0)),(7,1,.pv (.slice none 0 0)),(8,0,.pv (iV 0)),(8,1,.ls 9 n),(0,0,qaa l),(1,0,qaa m),(2,0,qan s),(9,0,.row 26 3 n (vs))]
abbrev qqm (k:Nat) (l:List Pt):TmL:=[(4,.pp 3 0),(5,.pp 4 0),(6,.pp 5 0),(7,.pp 6 0),(8,.pp 7 0),(9,.pv (iV (l.length:Int))),(10,.pp 8 0),(11,.pv (iV (k:Int)))]
abbrev qrU (k:Nat) (l:List Pt):TmL:=[(4,.pp 3 0),(5,.pp 4 0),(6,.pp 5 0),(7,.pp 6 0),(8,.pp 7 0),(9,.pv (iV (l.length:Int))),(10,.pp 8 0),(11,.pv (iV ((k+1:Nat):Int)))]
theorem qrw {rt x tn td:Int} {s l m:List Pt} {p:Pt} {k n:Nat} {vs:List Value} {a2 b2:Int} (hlt:decide ((k:Int)<(m.length:Int))=true) (hk:m[k]?=some p) (hin:0≤(k:Int)∧(k:Int)<(m.length:Int)) (hn:n+1≤1000000) (h1:decide (p.a≥0)=true) (ha:iV (IntKind.i64.wrap (p.a+(l.length:Int)))=iV (a2)) (h2:decide (p.b≥0)=true) (hb:iV (IntKind.i64.wrap (p.b+(l.length:Int)))=iV (b2)) (hs:iV (IntKind.i64.wrap ((k:Int)+1))=iV (((k+1:Nat):Int))) {e:Exit} {tm2:TmL} {hp2:HpL}
 (r:Rl 3 3 78 0 73 10 (qrU k l) ([(3,0,.pv (iV rt)),(3,1,.ls 0 l.length),(4,0,.pv (iV x)),(4,1,.ls 1 m.length),(5,0,.ls 2 s.length),(6,0,.pv (iV tn)),(6,1,.pv (iV td)),(7,0,.pv (iV 0)),(7,1,.pv (.slice none 0 0)),(8,0,.pv (iV 0)),(8,1,.ls 9 (n+1)),(0,0,qaa l),(1,0,qaa m),(2,0,qan s),(9,0,.row 26 3 (n+1) (vs++[iV p.id,iV a2,iV b2]))]) e tm2 hp2):Rl 3 3 78 0 73 10 (qqm k l) (qnL l m n rt s td tn vs x) e tm2 hp2:=
 RunsL.next [(9,12)] 300 [.t true,.r (ptV p),.t true,Re ha,.t true,Re hb,Re hs]
  (Ro (Ai hlt (Ai hin (Ai (qa0 hk) (Ai h1 (Ai ha (Ai h2 (Ai hb (Ai hn (Ai hs tI)))))))))) r
theorem qrN {rt x tn td:Int} {s l m:List Pt} {p:Pt} {k n:Nat} {vs:List Value} {a2:Int} (hlt:decide ((k:Int)<(m.length:Int))=true) (hk:m[k]?=some p) (hin:0≤(k:Int)∧(k:Int)<(m.length:Int)) (hn:n+1≤1000000) (h1:decide (p.a≥0)=true) (ha:iV (IntKind.i64.wrap (p.a+(l.length:Int)))=iV (a2)) (h2:decide (p.b≥0)=false) (hs:iV (IntKind.i64.wrap ((k:Int)+1))=iV (((k+1:Nat):Int))) {e:Exit} {tm2:TmL} {hp2:HpL}
 (r:Rl 3 3 78 0 73 10 (qrU k l) ([(3,0,.pv (iV rt)),(3,1,.ls 0 l.length),(4,0,.pv (iV x)),(4,1,.ls 1 m.length),(5,0,.ls 2 s.length),(6,0,.pv (iV tn)),(6,1,.pv (iV td)),(7,0,.pv (iV 0)),(7,1,.pv (.slice none 0 0)),(8,0,.pv (iV 0)),(8,1,.ls 9 (n+1)),(0,0,qaa l),(1,0,qaa m),(2,0,qan s),(9,0,.row 26 3 (n+1) (vs++[iV p.id,iV a2,iV p.b]))]) e tm2 hp2):Rl 3 3 78 0 73 10 (qqm k l) (qnL l m n rt s td tn vs x) e tm2 hp2:=
 RunsL.next [(9,12)] 300 [.t true,.r (ptV p),.t true,Re ha,.t false,Re hs]
  (Ro (Ai hlt (Ai hin (Ai (qa0 hk) (Ai h1 (Ai ha (Ai h2 (Ai hn (Ai hs tI))))))))) r
theorem qrG {rt x tn td:Int} {s l m:List Pt} {p:Pt} {k n:Nat} {vs:List Value} {b2:Int} (hlt:decide ((k:Int)<(m.length:Int))=true) (hk:m[k]?=some p) (hin:0≤(k:Int)∧(k:Int)<(m.length:Int)) (hn:n+1≤1000000) (h1:decide (p.a≥0)=false) (h2:decide (p.b≥0)=true) (hb:iV (IntKind.i64.wrap (p.b+(l.length:Int)))=iV (b2)) (hs:iV (IntKind.i64.wrap ((k:Int)+1))=iV (((k+1:Nat):Int))) {e:Exit} {tm2:TmL} {hp2:HpL}
 (r:Rl 3 3 78 0 73 10 (qrU k l) ([(3,0,.pv (iV rt)),(3,1,.ls 0 l.length),(4,0,.pv (iV x)),(4,1,.ls 1 m.length),(5,0,.ls 2 s.length),(6,0,.pv (iV tn)),(6,1,.pv (iV td)),(7,0,.pv (iV 0)),(7,1,.pv (.slice none 0 0)),(8,0,.pv (iV 0)),(8,1,.ls 9 (n+1)),(0,0,qaa l),(1,0,qaa m),(2,0,qan s),(9,0,.row 26 3 (n+1) (vs++[iV p.id,iV p.a,iV b2]))]) e tm2 hp2):Rl 3 3 78 0 73 10 (qqm k l) (qnL l m n rt s td tn vs x) e tm2 hp2:=
 RunsL.next [(9,12)] 300 [.t true,.r (ptV p),.t false,.t true,Re hb,Re hs]
  (Ro (Ai hlt (Ai hin (Ai (qa0 hk) (Ai h1 (Ai h2 (Ai hb (Ai hn (Ai hs tI))))))))) r
theorem qqS {rt x tn td:Int} {s l m:List Pt} {p:Pt} {k n:Nat} {vs:List Value} (hlt:decide ((k:Int)<(m.length:Int))=true) (hk:m[k]?=some p) (hin:0≤(k:Int)∧(k:Int)<(m.length:Int)) (hn:n+1≤1000000) (h1:decide (p.a≥0)=false) (h2:decide (p.b≥0)=false) (hs:iV (IntKind.i64.wrap ((k:Int)+1))=iV (((k+1:Nat):Int))) {e:Exit} {tm2:TmL} {hp2:HpL}
 (r:Rl 3 3 78 0 73 10 (qrU k l) ([(3,0,.pv (iV rt)),(3,1,.ls 0 l.length),(4,0,.pv (iV x)),(4,1,.ls 1 m.length),(5,0,.ls 2 s.length),(6,0,.pv (iV tn)),(6,1,.pv (iV td)),(7,0,.pv (iV 0)),(7,1,.pv (.slice none 0 0)),(8,0,.pv (iV 0)),(8,1,.ls 9 (n+1)),(0,0,qaa l),(1,0,qaa m),(2,0,qan s),(9,0,.row 26 3 (n+1) (vs++[iV p.id,iV p.a,iV p.b]))]) e tm2 hp2):Rl 3 3 78 0 73 10 (qqm k l) (qnL l m n rt s td tn vs x) e tm2 hp2:=
 RunsL.next [(9,12)] 300 [.t true,.r (ptV p),.t false,.t false,Re hs]
  (Ro (Ai hlt (Ai hin (Ai (qa0 hk) (Ai h1 (Ai h2 (Ai hn (Ai hs tI)))))))) r
theorem qoy {rt x tn td:Int} {s l m:List Pt} {k n:Nat} {vs:List Value} (hlt:decide ((k:Int)<(m.length:Int))=false):Rl 3 3 78 0 73 10 (qqm k l) (qnL l m n rt s td tn vs x) (.exit 0) ([(4,.pp 3 0),(5,.pp 4 0),(6,.pp 5 0),(7,.pp 6 0),(8,.pp 7 0),(9,.pv (iV (l.length:Int))),(10,.pp 8 0)]) (qnL l m n rt s td tn vs x):=
 RunsL.stop [] 300 [.t false] (fun h=>by cases h)
  (Ro (Ai hlt tI))
abbrev qtF (l:List Pt) (m:List Pt) (n:Nat) (rt:Int) (s:List Pt) (td:Int) (tn:Int) (vs:List Value) (x:Int):Prop:=Rl 3 3 78 0 73 10 ([(4,.pp 3 0),(5,.pp 4 0),(6,.pp 5 0),(7,.pp 6 0),(8,.pp 7 0),(9,.pv (iV (l.length:Int))),(10,.pp 8 0),(11,.pv (iV ((0:Nat):Int)))]) ([(3,0,.pv (iV rt)),(3,1,.ls 0 l.length),(4,0,.pv (iV x)),(4,1,.ls 1 m.length),(5,0,.ls 2 s.length),(6,0,.pv (iV tn)),(6,1,.pv (iV td)),(7,0,.pv (iV 0)),(7,1,.pv (.slice none 0 0)),(8,0,.pv (iV 0)),(8,1,.ls 9 (0+l.length)),(0,0,qaa l),(1,0,qaa m),(2,0,qan s),(9,0,.row 26 3 (0+l.length) ([]++qah l))]) (.exit 0) ([(4,.pp 3 0),(5,.pp 4 0),(6,.pp 5 0),(7,.pp 6 0),(8,.pp 7 0),(9,.pv (iV (l.length:Int))),(10,.pp 8 0)]) (qnL l m n rt s td tn vs x)
theorem qrE {rt x z tn td:Int} {s l m n1:List Pt} {n:Nat} {vs:List Value} {x0:Int} (h0:0+l.length≤1000000) (r0:qtF l m n rt s td tn vs x) (h1:decide (x≥0)=true) (hs:iV (IntKind.i64.wrap (x+(l.length:Int)))=iV (x0)) (hj:FnO Try.prog 102 1 2 [.ag [.pv (iV 0),.ls 1 n],qax 0 s,.pv (qad tn td),.pv (iV (rt)),.pv (iV (x0))] [(0,0,qan s),(1,0,.row 26 3 n (vs))] (.pv (iV (z))) 0 [(1,0,.row 26 3 n (qah n1))]) :
 Fn 78 3 [trS 0 rt l,trS 1 x m,qax 2 s,.pv (qad tn td)] [(0,0,qaa l),(1,0,qaa m),(2,0,qan s)] (.ag [.pv (iV z),.ls 3 n]) 1 [(3,0,.row 26 3 n (qah n1))]:=
 Fz [(3,9)] [Lf r0,.t true,Re hs,.fo 1 [2,9] [.ag [.pv (iV 0),.ls 1 n],qax 0 s,.pv (qad tn td),.pv (iV (rt)),.pv (iV (x0))] [(0,0,qan s),(1,0,.row 26 3 n (vs))] (.pv (iV (z))) 0 [(1,0,.row 26 3 n (qah n1))]]
  (qaj (qaB [(3,9)]) [(3,0,.row 26 3 n (qah n1))]) (Ai h0 (Lo r0 [] (Ai h1 (Ai hs (Ai hj (Ai (Eq.refl (List.map (SV.ren (qaq [2,9] 10)) [.ag [.pv (iV 0),.ls 1 n],qax 0 s,.pv (qad tn td),.pv (iV (rt)),.pv (iV (x0))])) (Ai (qaj (qaq [2,9] 10) [(0,0,qan s),(1,0,.row 26 3 n (vs))]) tI)))))))
theorem qn4 {rt x z tn td:Int} {s l m n1:List Pt} {n:Nat} {vs:List Value} (h0:0+l.length≤1000000) (r0:qtF l m n rt s td tn vs x) (h1:decide (x≥0)=false) (hj:FnO Try.prog 102 1 2 [.ag [.pv (iV 0),.ls 1 n],qax 0 s,.pv (qad tn td),.pv (iV (rt)),.pv (iV (x))] [(0,0,qan s),(1,0,.row 26 3 n (vs))] (.pv (iV (z))) 0 [(1,0,.row 26 3 n (qah n1))]) :
 Fn 78 3 [trS 0 rt l,trS 1 x m,qax 2 s,.pv (qad tn td)] [(0,0,qaa l),(1,0,qaa m),(2,0,qan s)] (.ag [.pv (iV z),.ls 3 n]) 1 [(3,0,.row 26 3 n (qah n1))]:=
 Fz [(3,9)] [Lf r0,.t false,.fo 1 [2,9] [.ag [.pv (iV 0),.ls 1 n],qax 0 s,.pv (qad tn td),.pv (iV (rt)),.pv (iV (x))] [(0,0,qan s),(1,0,.row 26 3 n (vs))] (.pv (iV (z))) 0 [(1,0,.row 26 3 n (qah n1))]]
  (qaj (qaB [(3,9)]) [(3,0,.row 26 3 n (qah n1))]) (Ai h0 (Lo r0 [] (Ai h1 (Ai hj (Ai (Eq.refl (List.map (SV.ren (qaq [2,9] 10)) [.ag [.pv (iV 0),.ls 1 n],qax 0 s,.pv (qad tn td),.pv (iV (rt)),.pv (iV (x))])) (Ai (qaj (qaq [2,9] 10) [(0,0,qan s),(1,0,.row 26 3 n (vs))]) tI))))))
end Go.Proofs.Ytalnjplghagbpaa

namespace Go.Proofs.Ytalnjplghagbpaa
set_option maxRecDepth 100000
open Go.RowKit
abbrev qfu (e1:Int) (l:List Pt) (rt:Int):Prop:=Fn 34 1 [trS 0 rt l] [(0,0,qaa l)] (.pv (iV (e1))) 0 []
theorem qtf {rt z e1:Int} {l:List Pt} (hc:qfu e1 l rt) (hce:(e1 !=0)=true) :
 Fn 36 1 [trS 0 rt l,.pv (iV (z))] [(0,0,qaa l)] (.pv (.tuple #[.agg #[iV 0,.slice none 0 0],.agg #[iV 0,.slice none 0 0],iV (e1)])) 0 []:=
 Fz [] [Cf hc [0],.t true]
  tI (Co hc [0] 4 (Ai hce tI))
theorem qty {rt z e1:Int} {l:List Pt} (hc:qfu e1 l rt) (hce:(e1 !=0)=false) (ho:Fn 39 1 [trS 0 rt l] [(0,0,qaa l)] (.pv (.bool false)) 0 []) :
 Fn 36 1 [trS 0 rt l,.pv (iV (z))] [(0,0,qaa l)] (.pv (.tuple #[.agg #[iV 0,.slice none 0 0],.agg #[iV 0,.slice none 0 0],iV (32)])) 0 []:=
 Fz [] [Cf hc [0],.t false,Cf ho [0],.k]
  tI (Co hc [0] 4 (Ai hce (Co ho [0] 4 tI)))
abbrev qno (l:List Pt) (rt:Int):HpL:=[(1,0,.pv (iV rt)),(1,1,.ls 0 l.length),(2,0,.pv (iV 0)),(2,1,.pv (.slice none 0 0)),(3,0,.pv (iV 0)),(3,1,.pv (.slice none 0 0)),(0,0,qaa l)]
abbrev qrr (k:Nat) (z:Int):TmL:=[(1,.pv (iV z)),(2,.pp 1 0),(4,.pp 2 0),(5,.pp 3 0),(8,.pv (iV (k:Int)))]
theorem qmj {rt z:Int} {l:List Pt} {p:Pt} {k:Nat} (hlt:decide ((k:Int)<(l.length:Int))=true) (hk:l[k]?=some p) (hin:0≤(k:Int)∧(k:Int)<(l.length:Int)) (hc:decide (p.id<z)=true) (hs:iV (IntKind.i64.wrap ((k:Int)+1))=iV (((k+1:Nat):Int))) {e:Exit} {tm2:TmL} {hp2:HpL}
 (r:Rl 1 1 36 0 47 4 ([(1,.pv (iV z)),(2,.pp 1 0),(4,.pp 2 0),(5,.pp 3 0),(8,.pv (iV ((k+1:Nat):Int)))]) (qno l rt) e tm2 hp2):Rl 1 1 36 0 47 4 (qrr k z) (qno l rt) e tm2 hp2:=
 RunsL.next [] 300 [.t true,.r (iV p.id),.t true,Re hs]
  (Ro (Ai hlt (Ai hin (Ai (qa3 hk) (Ai hc (Ai hs tI)))))) r
theorem qkI {rt z:Int} {l:List Pt} {p:Pt} {k:Nat} (hlt:decide ((k:Int)<(l.length:Int))=true) (hk:l[k]?=some p) (hin:0≤(k:Int)∧(k:Int)<(l.length:Int)) (hc:decide (p.id<z)=false):Rl 1 1 36 0 47 4 (qrr k z) (qno l rt) (.exit 0) (qrr k z) (qno l rt):=
 RunsL.stop [] 300 [.t true,.r (iV p.id),.t false] (fun h=>by cases h)
  (Ro (Ai hlt (Ai hin (Ai (qa3 hk) (Ai hc tI)))))
theorem qob {rt z:Int} {l:List Pt} {k:Nat} (hlt:decide ((k:Int)<(l.length:Int))=false):Rl 1 1 36 0 47 4 (qrr k z) (qno l rt) (.exit 0) (qrr k z) (qno l rt):=
 RunsL.stop [] 300 [.t false] (fun h=>by cases h)
  (Ro (Ai hlt tI))
abbrev qjX (l:List Pt) (rt:Int):Prop:=Fn 39 1 [trS 0 rt l] [(0,0,qaa l)] (.pv (.bool true)) 0 []
theorem qq9 {rt z e1:Int} {l n1 n2:List Pt} {n:Nat} {r1 r2:Int} (hc:qfu e1 l rt) (hce:(e1 !=0)=false) (ho:qjX l rt) (r0:Rl 1 1 36 0 47 4 ([(1,.pv (iV z)),(2,.pp 1 0),(4,.pp 2 0),(5,.pp 3 0),(8,.pv (iV ((0:Nat):Int)))]) (qno l rt) (.exit 0) ([(1,.pv (iV z)),(2,.pp 1 0),(4,.pp 2 0),(5,.pp 3 0),(8,.pv (iV (n:Int)))]) (qno l rt)) (hp1:Fn 74 1 [trS 0 rt l,.pv (iV (0)),.pv (iV (n:Int))] [(0,0,qaa l)] (.ag [.pv (iV r1),.ls 1 n1.length]) 1 [(1,0,qaa n1)]) (hp2:Fn 74 1 [trS 0 rt l,.pv (iV (n:Int)),.pv (iV (l.length:Int))] [(0,0,qaa l)] (.ag [.pv (iV r2),.ls 1 n2.length]) 1 [(1,0,qaa n2)]) :
 Fn 36 1 [trS 0 rt l,.pv (iV (z))] [(0,0,qaa l)] (.tu [.ag [.pv (iV r1),.ls 1 n1.length],.ag [.pv (iV r2),.ls 2 n2.length],.one (.pv (iV 0))]) 2 [(1,0,qaa n1),(2,0,qaa n2)]:=
 Fz [(1,4),(2,5)] [Cf hc [0],.t false,Cf ho [0],.k,Lf r0,.md,Cf hp1 [0],Cf hp2 [0]]
  (qaj (qaB [(1,4),(2,5)]) [(1,0,qaa n1),(2,0,qaa n2)]) (Co hc [0] 4 (Ai hce (Co ho [0] 4 (Lo r0 [] (Co hp1 [0] 4 (Co hp2 [0] 5 tI))))))
abbrev qgj (l:List Pt) (m:List Pt) (s:List Pt):HpL:=[(0,0,qaa l),(1,0,qaa m),(2,0,qan s)]
theorem qqP {rt x tn td e1:Int} {s l m:List Pt} (hc:qfu e1 l rt) (hce:(e1 !=0)=true) :
 Fn 37 3 [trS 0 rt l,trS 1 x m,qax 2 s,.pv (qad tn td)] (qgj l m s) (.pv (.tuple #[.agg #[iV 0,.slice none 0 0],iV (e1)])) 0 []:=
 Fz [] [Cf hc [0],.t true]
  tI (Co hc [0] 8 (Ai hce tI))
abbrev qig (e2:Int) (m:List Pt) (x:Int):Prop:=Fn 34 1 [trS 0 x m] [(0,0,qaa m)] (.pv (iV (e2))) 0 []
theorem qrP {rt x tn td e1:Int} {s l m:List Pt} {e2:Int} (hc:qfu e1 l rt) (hce:(e1 !=0)=false) (hc2:qig e2 m x) (hce2:(e2 !=0)=true) :
 Fn 37 3 [trS 0 rt l,trS 1 x m,qax 2 s,.pv (qad tn td)] (qgj l m s) (.pv (.tuple #[.agg #[iV 0,.slice none 0 0],iV (e2)])) 0 []:=
 Fz [] [Cf hc [0],.t false,Cf hc2 [1],.t true]
  tI (Co hc [0] 8 (Ai hce (Co hc2 [1] 8 (Ai hce2 tI))))
theorem qrH {rt x tn td e1:Int} {s l m:List Pt} {e2:Int} (hc:qfu e1 l rt) (hce:(e1 !=0)=false) (hc2:qig e2 m x) (hce2:(e2 !=0)=false) (ho1:Fn 39 1 [trS 0 rt l] [(0,0,qaa l)] (.pv (.bool false)) 0 []) :
 Fn 37 3 [trS 0 rt l,trS 1 x m,qax 2 s,.pv (qad tn td)] (qgj l m s) (.pv (.tuple #[.agg #[iV 0,.slice none 0 0],iV (32)])) 0 []:=
 Fz [] [Cf hc [0],.t false,Cf hc2 [1],.t false,Cf ho1 [0],.k]
  tI (Co hc [0] 8 (Ai hce (Co hc2 [1] 8 (Ai hce2 (Co ho1 [0] 8 tI)))))
theorem qpW {rt x tn td e1:Int} {s l m:List Pt} {e2:Int} (hc:qfu e1 l rt) (hce:(e1 !=0)=false) (hc2:qig e2 m x) (hce2:(e2 !=0)=false) (ho1:qjX l rt) (ho2:Fn 39 1 [trS 0 x m] [(0,0,qaa m)] (.pv (.bool false)) 0 []) :
 Fn 37 3 [trS 0 rt l,trS 1 x m,qax 2 s,.pv (qad tn td)] (qgj l m s) (.pv (.tuple #[.agg #[iV 0,.slice none 0 0],iV (32)])) 0 []:=
 Fz [] [Cf hc [0],.t false,Cf hc2 [1],.t false,Cf ho1 [0],.k,Cf ho2 [1],.k]
  tI (Co hc [0] 8 (Ai hce (Co hc2 [1] 8 (Ai hce2 (Co ho1 [0] 8 (Co ho2 [1] 8 tI))))))
abbrev qkW (e3:Int) (s:List Pt):Prop:=Fn 75 1 [qax 0 s] [(0,0,qan s)] (.pv (iV (e3))) 0 []
abbrev qk9 (m:List Pt) (x:Int):Prop:=Fn 39 1 [trS 0 x m] [(0,0,qaa m)] (.pv (.bool true)) 0 []
theorem qsO {rt x tn td e1:Int} {s l m:List Pt} {e2 e3:Int} (hc:qfu e1 l rt) (hce:(e1 !=0)=false) (hc2:qig e2 m x) (hce2:(e2 !=0)=false) (ho1:qjX l rt) (ho2:qk9 m x) (hf:qkW e3 s) (hfe:(e3 !=0)=true) :
 Fn 37 3 [trS 0 rt l,trS 1 x m,qax 2 s,.pv (qad tn td)] (qgj l m s) (.pv (.tuple #[.agg #[iV 0,.slice none 0 0],iV (e3)])) 0 []:=
 Fz [] [Cf hc [0],.t false,Cf hc2 [1],.t false,Cf ho1 [0],.k,Cf ho2 [1],.k,Cf hf [2],.t true]
  tI (Co hc [0] 8 (Ai hce (Co hc2 [1] 8 (Ai hce2 (Co ho1 [0] 8 (Co ho2 [1] 8 (Co hf [2] 8 (Ai hfe tI))))))))
abbrev qeP (e4:Int) (td:Int) (tn:Int):Prop:=Pure Try.prog 76 #[qad tn td] (iV (e4))
theorem qs2 {rt x tn td e1:Int} {s l m:List Pt} {e2 e3 e4:Int} (hc:qfu e1 l rt) (hce:(e1 !=0)=false) (hc2:qig e2 m x) (hce2:(e2 !=0)=false) (ho1:qjX l rt) (ho2:qk9 m x) (hf:qkW e3 s) (hfe:(e3 !=0)=false) (hr:qeP e4 td tn) (hre:(e4 !=0)=true) :
 Fn 37 3 [trS 0 rt l,trS 1 x m,qax 2 s,.pv (qad tn td)] (qgj l m s) (.pv (.tuple #[.agg #[iV 0,.slice none 0 0],iV (8)])) 0 []:=
 Fz [] [Cf hc [0],.t false,Cf hc2 [1],.t false,Cf ho1 [0],.k,Cf ho2 [1],.k,Cf hf [2],.t false,Rf hr,.t true]
  tI (Co hc [0] 8 (Ai hce (Co hc2 [1] 8 (Ai hce2 (Co ho1 [0] 8 (Co ho2 [1] 8 (Co hf [2] 8 (Ai hfe (Ai hr (Ai hre tI))))))))))
theorem qmG {rt x tn td e1:Int} {s l m:List Pt} {z1:Int} {e2 e3 e4:Int} (hc:qfu e1 l rt) (hce:(e1 !=0)=false) (hc2:qig e2 m x) (hce2:(e2 !=0)=false) (ho1:qjX l rt) (ho2:qk9 m x) (hf:qkW e3 s) (hfe:(e3 !=0)=false) (hr:qeP e4 td tn) (hre:(e4 !=0)=false) (hs:iV (IntKind.i64.wrap ((l.length:Int)+(m.length:Int)))=iV (z1)) (hm:decide (z1>64)=true) :
 Fn 37 3 [trS 0 rt l,trS 1 x m,qax 2 s,.pv (qad tn td)] (qgj l m s) (.pv (.tuple #[.agg #[iV 0,.slice none 0 0],iV (4)])) 0 []:=
 Fz [] [Cf hc [0],.t false,Cf hc2 [1],.t false,Cf ho1 [0],.k,Cf ho2 [1],.k,Cf hf [2],.t false,Rf hr,.t false,Re hs,.t true]
  tI (Co hc [0] 8 (Ai hce (Co hc2 [1] 8 (Ai hce2 (Co ho1 [0] 8 (Co ho2 [1] 8 (Co hf [2] 8 (Ai hfe (Ai hr (Ai hre (Ai hs (Ai hm tI))))))))))))
theorem qrO {rt x tn td e1:Int} {s l m:List Pt} {z1:Int} {e2 e3 e4:Int} (hc:qfu e1 l rt) (hce:(e1 !=0)=false) (hc2:qig e2 m x) (hce2:(e2 !=0)=false) (ho1:qjX l rt) (ho2:qk9 m x) (hf:qkW e3 s) (hfe:(e3 !=0)=false) (hr:qeP e4 td tn) (hre:(e4 !=0)=false) (hs:iV (IntKind.i64.wrap ((l.length:Int)+(m.length:Int)))=iV (z1)) (hm:decide (z1>64)=false) (hk1:Fn 77 2 [qax 0 s,trS 1 rt l] [(0,0,qan s),(1,0,qaa l)] (.pv (.bool false)) 0 []) :
 Fn 37 3 [trS 0 rt l,trS 1 x m,qax 2 s,.pv (qad tn td)] (qgj l m s) (.pv (.tuple #[.agg #[iV 0,.slice none 0 0],iV (6)])) 0 []:=
 Fz [] [Cf hc [0],.t false,Cf hc2 [1],.t false,Cf ho1 [0],.k,Cf ho2 [1],.k,Cf hf [2],.t false,Rf hr,.t false,Re hs,.t false,Cf hk1 [2,0],.k]
  tI (Co hc [0] 8 (Ai hce (Co hc2 [1] 8 (Ai hce2 (Co ho1 [0] 8 (Co ho2 [1] 8 (Co hf [2] 8 (Ai hfe (Ai hr (Ai hre (Ai hs (Ai hm (Co hk1 [2,0] 8 tI)))))))))))))
abbrev qrL (l:List Pt) (rt:Int) (s:List Pt):Prop:=Fn 77 2 [qax 0 s,trS 1 rt l] [(0,0,qan s),(1,0,qaa l)] (.pv (.bool true)) 0 []
theorem qqQ {rt x tn td e1:Int} {s l m:List Pt} {z1:Int} {e2 e3 e4:Int} (hc:qfu e1 l rt) (hce:(e1 !=0)=false) (hc2:qig e2 m x) (hce2:(e2 !=0)=false) (ho1:qjX l rt) (ho2:qk9 m x) (hf:qkW e3 s) (hfe:(e3 !=0)=false) (hr:qeP e4 td tn) (hre:(e4 !=0)=false) (hs:iV (IntKind.i64.wrap ((l.length:Int)+(m.length:Int)))=iV (z1)) (hm:decide (z1>64)=false) (hk1:qrL l rt s) (hk2:Fn 77 2 [qax 0 s,trS 1 x m] [(0,0,qan s),(1,0,qaa m)] (.pv (.bool false)) 0 []) :
 Fn 37 3 [trS 0 rt l,trS 1 x m,qax 2 s,.pv (qad tn td)] (qgj l m s) (.pv (.tuple #[.agg #[iV 0,.slice none 0 0],iV (6)])) 0 []:=
 Fz [] [Cf hc [0],.t false,Cf hc2 [1],.t false,Cf ho1 [0],.k,Cf ho2 [1],.k,Cf hf [2],.t false,Rf hr,.t false,Re hs,.t false,Cf hk1 [2,0],.k,Cf hk2 [2,1],.k]
  tI (Co hc [0] 8 (Ai hce (Co hc2 [1] 8 (Ai hce2 (Co ho1 [0] 8 (Co ho2 [1] 8 (Co hf [2] 8 (Ai hfe (Ai hr (Ai hre (Ai hs (Ai hm (Co hk1 [2,0] 8 (Co hk2 [2,1] 8 tI))))))))))))))
abbrev qmB (m:List Pt) (s:List Pt) (x:Int):Prop:=Fn 77 2 [qax 0 s,trS 1 x m] [(0,0,qan s),(1,0,qaa m)] (.pv (.bool true)) 0 []
theorem qmP {rt x tn td e1:Int} {s l m:List Pt} {p q:Pt} {j:Nat} {z1:Int} {e2 e3 e4:Int} (hc:qfu e1 l rt) (hce:(e1 !=0)=false) (hc2:qig e2 m x) (hce2:(e2 !=0)=false) (ho1:qjX l rt) (ho2:qk9 m x) (hf:qkW e3 s) (hfe:(e3 !=0)=false) (hr:qeP e4 td tn) (hre:(e4 !=0)=false) (hs:iV (IntKind.i64.wrap ((l.length:Int)+(m.length:Int)))=iV (z1)) (hm:decide (z1>64)=false) (hk1:qrL l rt s) (hk2:qmB m s x) (hl0:decide ((l.length:Int)>0)=true) (hm0:decide ((m.length:Int)>0)=true) (hj1:iV (IntKind.i64.wrap ((l.length:Int)-1))=iV (j:Int)) (hji:0≤(j:Int)∧(j:Int)<(l.length:Int)) (hp:l[j]?=some p) (hmi:0≤(0:Int)∧(0:Int)<(m.length:Int)) (hq:m[0]?=some q) (hc3:decide (p.id≥q.id)=true) :
 Fn 37 3 [trS 0 rt l,trS 1 x m,qax 2 s,.pv (qad tn td)] (qgj l m s) (.pv (.tuple #[.agg #[iV 0,.slice none 0 0],iV (32)])) 0 []:=
 Fz [] [Cf hc [0],.t false,Cf hc2 [1],.t false,Cf ho1 [0],.k,Cf ho2 [1],.k,Cf hf [2],.t false,Rf hr,.t false,Re hs,.t false,Cf hk1 [2,0],.k,Cf hk2 [2,1],.k,.t true,.t true,Re hj1,.r (iV p.id),.r (iV q.id),.t true]
  tI (Co hc [0] 8 (Ai hce (Co hc2 [1] 8 (Ai hce2 (Co ho1 [0] 8 (Co ho2 [1] 8 (Co hf [2] 8 (Ai hfe (Ai hr (Ai hre (Ai hs (Ai hm (Co hk1 [2,0] 8 (Co hk2 [2,1] 8 (Ai hl0 (Ai hm0 (Ai hj1 (Ai hji (Ai (qa3 hp) (Ai hmi (Ai (qa3 hq) (Ai hc3 tI))))))))))))))))))))))
abbrev qnP (l:List Pt) (m:List Pt) (n1:List Pt) (r1:Int) (rt:Int) (s:List Pt) (td:Int) (tn:Int) (x:Int):Prop:=Fn 78 3 [trS 0 rt l,trS 1 x m,qax 2 s,.pv (qad tn td)] (qgj l m s) (.ag [.pv (iV r1),.ls 3 n1.length]) 1 [(3,0,qaa n1)]
theorem qoU {rt x tn td e1:Int} {s l m n1:List Pt} {r1 z1:Int} {e2 e3 e4:Int} (hc:qfu e1 l rt) (hce:(e1 !=0)=false) (hc2:qig e2 m x) (hce2:(e2 !=0)=false) (ho1:qjX l rt) (ho2:qk9 m x) (hf:qkW e3 s) (hfe:(e3 !=0)=false) (hr:qeP e4 td tn) (hre:(e4 !=0)=false) (hs:iV (IntKind.i64.wrap ((l.length:Int)+(m.length:Int)))=iV (z1)) (hm:decide (z1>64)=false) (hk1:qrL l rt s) (hk2:qmB m s x) (hl0:decide ((l.length:Int)>0)=false) (hj:qnP l m n1 r1 rt s td tn x) :
 Fn 37 3 [trS 0 rt l,trS 1 x m,qax 2 s,.pv (qad tn td)] (qgj l m s) (.tu [.ag [.pv (iV r1),.ls 3 n1.length],.one (.pv (iV 0))]) 1 [(3,0,qaa n1)]:=
 Fz [(3,8)] [Cf hc [0],.t false,Cf hc2 [1],.t false,Cf ho1 [0],.k,Cf ho2 [1],.k,Cf hf [2],.t false,Rf hr,.t false,Re hs,.t false,Cf hk1 [2,0],.k,Cf hk2 [2,1],.k,.t false,Cf hj [0,1,2]]
  (qaj (qaB [(3,8)]) [(3,0,qaa n1)]) (Co hc [0] 8 (Ai hce (Co hc2 [1] 8 (Ai hce2 (Co ho1 [0] 8 (Co ho2 [1] 8 (Co hf [2] 8 (Ai hfe (Ai hr (Ai hre (Ai hs (Ai hm (Co hk1 [2,0] 8 (Co hk2 [2,1] 8 (Ai hl0 (Co hj [0,1,2] 8 tI))))))))))))))))
theorem qpf {rt x tn td e1:Int} {s l m n1:List Pt} {r1 z1:Int} {e2 e3 e4:Int} (hc:qfu e1 l rt) (hce:(e1 !=0)=false) (hc2:qig e2 m x) (hce2:(e2 !=0)=false) (ho1:qjX l rt) (ho2:qk9 m x) (hf:qkW e3 s) (hfe:(e3 !=0)=false) (hr:qeP e4 td tn) (hre:(e4 !=0)=false) (hs:iV (IntKind.i64.wrap ((l.length:Int)+(m.length:Int)))=iV (z1)) (hm:decide (z1>64)=false) (hk1:qrL l rt s) (hk2:qmB m s x) (hl0:decide ((l.length:Int)>0)=true) (hm0:decide ((m.length:Int)>0)=false) (hj:qnP l m n1 r1 rt s td tn x) :
 Fn 37 3 [trS 0 rt l,trS 1 x m,qax 2 s,.pv (qad tn td)] (qgj l m s) (.tu [.ag [.pv (iV r1),.ls 3 n1.length],.one (.pv (iV 0))]) 1 [(3,0,qaa n1)]:=
 Fz [(3,8)] [Cf hc [0],.t false,Cf hc2 [1],.t false,Cf ho1 [0],.k,Cf ho2 [1],.k,Cf hf [2],.t false,Rf hr,.t false,Re hs,.t false,Cf hk1 [2,0],.k,Cf hk2 [2,1],.k,.t true,.t false,Cf hj [0,1,2]]
  (qaj (qaB [(3,8)]) [(3,0,qaa n1)]) (Co hc [0] 8 (Ai hce (Co hc2 [1] 8 (Ai hce2 (Co ho1 [0] 8 (Co ho2 [1] 8 (Co hf [2] 8 (Ai hfe (Ai hr (Ai hre (Ai hs (Ai hm (Co hk1 [2,0] 8 (Co hk2 [2,1] 8 (Ai hl0 (Ai hm0 (Co hj [0,1,2] 8 tI)))))))))))))))))
theorem qo9 {rt x tn td e1:Int} {s l m n1:List Pt} {p q:Pt} {j:Nat} {r1 z1:Int} {e2 e3 e4:Int} (hc:qfu e1 l rt) (hce:(e1 !=0)=false) (hc2:qig e2 m x) (hce2:(e2 !=0)=false) (ho1:qjX l rt) (ho2:qk9 m x) (hf:qkW e3 s) (hfe:(e3 !=0)=false) (hr:qeP e4 td tn) (hre:(e4 !=0)=false) (hs:iV (IntKind.i64.wrap ((l.length:Int)+(m.length:Int)))=iV (z1)) (hm:decide (z1>64)=false) (hk1:qrL l rt s) (hk2:qmB m s x) (hl0:decide ((l.length:Int)>0)=true) (hm0:decide ((m.length:Int)>0)=true) (hj1:iV (IntKind.i64.wrap ((l.length:Int)-1))=iV (j:Int)) (hji:0≤(j:Int)∧(j:Int)<(l.length:Int)) (hp:l[j]?=some p) (hmi:0≤(0:Int)∧(0:Int)<(m.length:Int)) (hq:m[0]?=some q) (hc3:decide (p.id≥q.id)=false) (hj:qnP l m n1 r1 rt s td tn x) :
 Fn 37 3 [trS 0 rt l,trS 1 x m,qax 2 s,.pv (qad tn td)] (qgj l m s) (.tu [.ag [.pv (iV r1),.ls 3 n1.length],.one (.pv (iV 0))]) 1 [(3,0,qaa n1)]:=
 Fz [(3,8)] [Cf hc [0],.t false,Cf hc2 [1],.t false,Cf ho1 [0],.k,Cf ho2 [1],.k,Cf hf [2],.t false,Rf hr,.t false,Re hs,.t false,Cf hk1 [2,0],.k,Cf hk2 [2,1],.k,.t true,.t true,Re hj1,.r (iV p.id),.r (iV q.id),.t false,Cf hj [0,1,2]]
  (qaj (qaB [(3,8)]) [(3,0,qaa n1)]) (Co hc [0] 8 (Ai hce (Co hc2 [1] 8 (Ai hce2 (Co ho1 [0] 8 (Co ho2 [1] 8 (Co hf [2] 8 (Ai hfe (Ai hr (Ai hre (Ai hs (Ai hm (Co hk1 [2,0] 8 (Co hk2 [2,1] 8 (Ai hl0 (Ai hm0 (Ai hj1 (Ai hji (Ai (qa3 hp) (Ai hmi (Ai (qa3 hq) (Ai hc3 (Co hj [0,1,2] 8 tI)))))))))))))))))))))))
end Go.Proofs.Ytalnjplghagbpaa

namespace Go.Proofs.Ytalnjplghagbpaa
set_option maxRecDepth 100000
open Go.RowKit
def wL (T:Sh Nat):List Int:=T.list.map fun k:Nat=>(k:Int)
theorem qdw (T:Sh Nat):(wL T).length=T.list.length:=List.length_map ..
theorem qet (a b:Sh Nat) (k:Nat):wL (.node a k b)=wL a++((k:Int)::wL b):=by simp[wL,Sh.list]
theorem qcW:wL .nil=[]:=rfl
theorem qfI {T:Sh Nat} {j k:Nat} (h:T.list[j]?=some k):(wL T)[j]?=some (k:Int):=by unfold wL;rw[List.getElem?_map,h];rfl
theorem qbi (g:List Int) (x:Int):ziV (g++[x])=ziV g++[iV x]:=qhE g [x]
section
variable {rt:Int} {l:List Pt}
theorem qop (hl:l.length≤999999):∀ {T:Sh Nat} {z:Int} (g:List Int) {n:Nat} {v:List Value},Rep l z T→n=g.length→v=ziV g→n+T.list.length≤l.length→T≠.nil→
 FnO Try.prog 96 1 2 [trS 0 rt l,.pv (iV z),.ls 1 n] [(0,0,qaa l),(1,0,.row 3 1 n v)] (.ls 2 (g++wL T).length) 1 [(2,0,zrI (g++wL T))]:=by
 intro T
 induction T with
 | nil=>intro z g n v _ _ _ _ h;exact (h rfl).elim
 | node a k b iha ihb=>
  intro z g n v hr hn hv hlen _
  subst hn hv
  obtain⟨hz,p,hp,a1,a2⟩:=hr
  subst hz
  have hkl:=qai hp
  have hs:(Sh.node a k b).list.length=a.list.length+(b.list.length+1):=by simp[Sh.list]
  rw[hs] at hlen
  have e:g++wL (.node a k b)=((g++wL a)++[(k:Int)])++wL b:=by rw[qet];simp
  have c0:decide ((k:Int)<0)=false:=df (by omega)
  have c1:decide ((g.length:Int)>(l.length:Int))=false:=df (by omega)
  have hin:0≤(k:Int)∧(k:Int)<(l.length:Int):=⟨by omega,by omega⟩
  have la:(g++wL a).length=g.length+a.list.length:=by rw[List.length_append,qdw]
  have lr:∀ c:List Int,(c++[(k:Int)]).length=c.length+1:=fun c=>by simp
  by_cases ea:a=.nil
  ·subst ea
   have ga:g++wL .nil=g:=by rw[qcW,List.append_nil]
   rw[ga] at e
   have pa:p.a = -1:=a1
   have hL:=qcB (rt:=rt) (l:=l) (z:=p.a) (n:=g.length) (vs:=ziV g) (dt (by omega))
   by_cases eb:b=.nil
   ·subst eb
    have pb:p.b = -1:=a2
    rw[e,qcW,List.append_nil]
    have:=qrb (h0:=c0) (h1:=c1) (hk:=hp) (hin:=hin) (hl:=hL) (hn:=by omega) (hr:=qcB (rt:=rt) (l:=l) (z:=p.b) (n:=g.length+1) (vs:=ziV g++[iV (k:Int)]) (dt (by omega)))
    rw[zrI,lr,qbi]
    exact this
   ·rw[e]
    exact qrk (h0:=c0) (h1:=c1) (hk:=hp) (hin:=hin) (hl:=hL) (hn:=by omega) (hr:=ihb (g++[(k:Int)]) a2 (lr g).symm (qbi g k).symm (by omega) eb)
  ·have hL:=iha g a1 rfl rfl (by omega) ea
   by_cases eb:b=.nil
   ·subst eb
    have pb:p.b = -1:=a2
    rw[e,qcW,List.append_nil]
    have:=qrn (h0:=c0) (h1:=c1) (hk:=hp) (hin:=hin) (hl:=hL) (hn:=by omega) (hr:=qcB (rt:=rt) (l:=l) (z:=p.b) (n:=(g++wL a).length+1) (vs:=ziV (g++wL a)++[iV (k:Int)]) (dt (by omega)))
    rw[zrI,lr,qbi]
    exact this
   ·rw[e]
    exact qq0 (h0:=c0) (h1:=c1) (hk:=hp) (hin:=hin) (hl:=hL) (hn:=by omega) (hr:=ihb ((g++wL a)++[(k:Int)]) a2 (lr _).symm (qbi _ k).symm (by omega) eb)
theorem qnw (hl:l.length≤999999) {T:Sh Nat} {z:Int} (hr:Rep l z T) (hlen:T.list.length≤l.length) (hT:T≠.nil) :
 Fn 96 1 [trS 0 rt l,.pv (iV z),.pv (.slice none 0 0)] [(0,0,qaa l)] (.ls 1 (wL T).length) 1 [(1,0,zrI (wL T))]:=by
 cases T with
 | nil=>exact (hT rfl).elim
 | node a k b=>
  obtain⟨hz,p,hp,a1,a2⟩:=hr
  subst hz
  have hkl:=qai hp
  have hs:(Sh.node a k b).list.length=a.list.length+(b.list.length+1):=by simp[Sh.list]
  rw[hs] at hlen
  have e:wL (.node a k b)=(wL a++[(k:Int)])++wL b:=by rw[qet];simp
  have c0:decide ((k:Int)<0)=false:=df (by omega)
  have c1:decide ((0:Int)>(l.length:Int))=false:=df (by omega)
  have hin:0≤(k:Int)∧(k:Int)<(l.length:Int):=⟨by omega,by omega⟩
  have la:(wL a).length=a.list.length:=qdw a
  have lr:∀ c:List Int,(c++[(k:Int)]).length=c.length+1:=fun c=>by simp
  by_cases ea:a=.nil
  ·subst ea
   rw[qcW,List.nil_append] at e
   have pa:p.a = -1:=a1
   have hL:=qcB (rt:=rt) (l:=l) (z:=p.a) (n:=0) (vs:=[]) (dt (by omega))
   by_cases eb:b=.nil
   ·subst eb
    have pb:p.b = -1:=a2
    rw[e,qcW,List.append_nil]
    exact qqE (h0:=c0) (h1:=c1) (hk:=hp) (hin:=hin) (hl:=hL) (hn:=by omega) (hr:=qcB (rt:=rt) (l:=l) (z:=p.b) (n:=0+1) (vs:=[]++[iV (k:Int)]) (dt (by omega)))
   ·rw[e]
    exact qpX (h0:=c0) (h1:=c1) (hk:=hp) (hin:=hin) (hl:=hL) (hn:=by omega) (hr:=qop hl [(k:Int)] a2 rfl rfl (by omega) eb)
  ·have hL:=qop (rt:=rt) (n:=0) hl [] a1 rfl rfl (by omega) ea
   rw[List.nil_append] at hL
   by_cases eb:b=.nil
   ·subst eb
    have pb:p.b = -1:=a2
    rw[e,qcW,List.append_nil]
    have:=qqg (h0:=c0) (h1:=c1) (hk:=hp) (hin:=hin) (hl:=hL) (hn:=by omega) (hr:=qcB (rt:=rt) (l:=l) (z:=p.b) (n:=(wL a).length+1) (vs:=ziV (wL a)++[iV (k:Int)]) (dt (by omega)))
    rw[zrI,lr,qbi]
    exact this
   ·rw[e]
    exact qrl (h0:=c0) (h1:=c1) (hk:=hp) (hin:=hin) (hl:=hL) (hn:=by omega) (hr:=qop hl (wL a++[(k:Int)]) a2 (lr _).symm (qbi _ k).symm (by omega) eb)
theorem qrm (hl:l.length≤999999) {T:Sh Nat} (hr:Rep l rt T) (hlen:T.list.length≤l.length) :
 Fn 73 1 [trS 0 rt l] [(0,0,qaa l)] (.ls 1 (wL T).length) 1 [(1,0,zrI (wL T))]:=by
 by_cases hT:T=.nil
 ·subst hT
  have h:rt = -1:=hr
  exact qeh 3 1 (qoY (hw:=qfS (h0:=dt (by omega)))) .ls
 ·exact qp8 (hw:=qnw hl hr hlen hT)
theorem qq2 (hl:l.length≤999999) {T:Sh Nat} (hr:Rep l rt T) (hlen:T.list.length≤l.length) :
 Fn 72 1 [trS 0 rt l] [(0,0,qaa l)] (.pv (.bool (decide (T.list.length=l.length)))) 0 []:=by
 by_cases hT:T=.nil
 ·subst hT
  have h:rt = -1:=hr
  by_cases e:l.length=0
  ·rw[show decide ((Sh.nil:Sh Nat).list.length=l.length)=true from decide_eq_true (by rw[e];rfl)]
   exact qn3 (hw:=qfS (h0:=dt (by omega))) (he:=by rw[e];rfl)
  ·rw[show decide ((Sh.nil:Sh Nat).list.length=l.length)=false from decide_eq_false (fun h=>e h.symm)]
   exact qmf (hw:=qfS (h0:=dt (by omega))) (he:=beq_eq_false_iff_ne.2 (by omega))
 ·have hw:=qnw (rt:=rt) hl hr hlen hT
  have hg:=qdw T
  by_cases e:T.list.length=l.length
  ·rw[decide_eq_true e]
   exact qlR (hw:=hw) (he:=beq_iff_eq.2 (by omega))
  ·rw[decide_eq_false e]
   exact qkf (hw:=hw) (he:=beq_eq_false_iff_ne.2 (by omega))
end
end Go.Proofs.Ytalnjplghagbpaa
