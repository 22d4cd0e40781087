/-
  Package slot's functions, path by path. Conditions: none.
-/
import Derived.Test.YtkjaanhddkkodaaGreatW27
import Derived.Test.YtkjaanhddkkodaaGreatW18
namespace Go.Proofs.YtkjaanhddkkodaaGreat
set_option maxRecDepth 100000
open Go.RowKit
theorem qe5 (n:Nat):some (SV.row 3 1 n (qc0 [iV 0] n))=some (SV.row 3 1 n (ziV (List.replicate n 0))):=by rw[qju]
theorem qwo (n:Nat):SV.ls 2 (0+n)=(SV.ls 1 n).ren (qaK [(1,2)]):=by rw[Nat.zero_add];rfl
theorem qee (e:TypeId) (n:Nat) (xs:List Value):some (SV.row e 1 (0+n) ([]++xs))=some (SV.row e 1 n xs):=by rw[Nat.zero_add,List.nil_append]
theorem qyN (fr:List Int):SV.ls 5 (0+fr.length+1)=(SV.ls 3 (fr.length+1)).ren (qaK [(3,5)]):=by rw[Nat.zero_add];rfl
theorem qpz (fr:List Int) (x:Int):some (SV.row 3 1 (0+fr.length+1) ([]++ziV fr++[iV x]))=some (SV.row 3 1 (fr.length+1) (ziV (fr++[x]))):=by rw[Nat.zero_add,List.nil_append,qbi];rfl
abbrev qBe (g:List Int) (n:Nat):HpL:=[(0,0,.pv (.slice none 0 0)),(0,1,.pv (.slice none 0 0)),(0,2,.pv (.slice none 0 0)),(4,0,.ls 1 n),(4,1,.ls 2 n),(4,2,.ls 3 n),(1,0,.row 3 1 n (ziV (List.replicate n 0))),(2,0,.row 4 1 n (zbV (List.replicate n false))),(3,0,.row 3 1 n (ziV g))]
theorem qtt {g:List Int} {k n:Nat} (hg:k<g.length) (hin:0≤(k:Int)∧(k:Int)<(n:Int)) (hlt:decide ((k:Int)<(n:Int))=true) (h1:iV (IntKind.i64.wrap ((n:Int)-1))=iV ((n:Int)-1)) (h2:iV (IntKind.i64.wrap ((n:Int)-1-(k:Int)))=iV ((n:Int)-1-(k:Int))) (hs:iV (IntKind.i64.wrap ((k:Int)+1))=iV (((k+1:Nat):Int))) {e:Exit} {tm2:TmL} {hp2:HpL}
 (r:Rl 0 0 98 0 31 5 ([(0,.pv (iV (n:Int))),(2,.pp 0 0),(4,.pp 4 0),(17,.pv (iV (n:Int))),(18,.pv (iV ((k+1:Nat):Int)))]) ([(0,0,.pv (.slice none 0 0)),(0,1,.pv (.slice none 0 0)),(0,2,.pv (.slice none 0 0)),(4,0,.ls 1 n),(4,1,.ls 2 n),(4,2,.ls 3 n),(1,0,.row 3 1 n (ziV (List.replicate n 0))),(2,0,.row 4 1 n (zbV (List.replicate n false))),(3,0,.row 3 1 n (ziV (g.set k ((n:Int)-1-(k:Int)))))]) e tm2 hp2):Rl 0 0 98 0 31 5 ([(0,.pv (iV (n:Int))),(2,.pp 0 0),(4,.pp 4 0),(17,.pv (iV (n:Int))),(18,.pv (iV (k:Int)))]) (qBe g n) e tm2 hp2:=
 RunsL.next [] 300 [.t true,Re h1,Re h2,.w (ziV (g.set k ((n:Int)-1-(k:Int)))),Re hs]
  (Ro (Ai hlt (Ai h1 (Ai h2 (Ai hin (Ai (qh7 g k ((n:Int)-1-(k:Int)) hg) (Ai (qbC g k hg) (Ai hs tI)))))))) r
theorem qy8 {g:List Int} {k n:Nat} (hge:decide ((k:Int)<(n:Int))=false):Rl 0 0 98 0 31 5 ([(0,.pv (iV (n:Int))),(2,.pp 0 0),(4,.pp 4 0),(17,.pv (iV (n:Int))),(18,.pv (iV (k:Int)))]) (qBe g n) (.exit 0) ([(2,.pp 0 0),(4,.pp 4 0)]) (qBe g n):=
 RunsL.stop [] 300 [.t false] (fun h=>by cases h)
  (Ro (Ai hge tI))
theorem qBX {g:List Int} {n:Nat} (hz:Pure Tryz.prog 145 #[iV (n:Int)] (.bool true)) (n0:0≤(n:Int)) (n1:(n:Int)≤1000000) (r0:Rl 0 0 98 0 31 5 ([(0,.pv (iV (n:Int))),(2,.pp 0 0),(4,.pp 4 0),(17,.pv (iV (n:Int))),(18,.pv (iV ((0:Nat):Int)))]) ([(0,0,.pv (.slice none 0 0)),(0,1,.pv (.slice none 0 0)),(0,2,.pv (.slice none 0 0)),(4,0,.ls 1 n),(4,1,.ls 2 n),(4,2,.ls 3 n),(1,0,.row 3 1 n (ziV (List.replicate n 0))),(2,0,.row 4 1 n (zbV (List.replicate n false))),(3,0,.row 3 1 n (ziV (List.replicate n 0)))]) (.exit 0) ([(2,.pp 0 0),(4,.pp 4 0)]) (qBe g n)) :
 Fn 98 0 [.pv (iV (n:Int))] [] (.tu [.ag [.ls 0 n,.ls 1 n,.ls 2 n],.one (.pv (iV 0))]) 3 [(0,0,.row 3 1 n (ziV (List.replicate n 0))),(1,0,.row 4 1 n (zbV (List.replicate n false))),(2,0,.row 3 1 n (ziV g))]:=
 Fz [(0,1),(1,2),(2,3)] [Rf hz,.k,.md,Lf r0]
  (qaG (qaK [(0,1),(1,2),(2,3)]) [(0,0,.row 3 1 n (ziV (List.replicate n 0))),(1,0,.row 4 1 n (zbV (List.replicate n false))),(2,0,.row 3 1 n (ziV g))]) (Ai hz (Ai n0 (Ai (Eq.refl (n:Int)) (Ai n1 (Ai n0 (Ai (Eq.refl (n:Int)) (Ai n1 (Ai n0 (Ai (Eq.refl (n:Int)) (Ai n1 (Ai (Lt r0 []) (Ai (Ai (Er (SV.pv (.slice none 0 0))) (Ai (Er (SV.pv (.slice none 0 0))) (Ai (Er (SV.pv (.slice none 0 0))) (Ai (Er (SV.ls 1 n)) (Ai (Er (SV.ls 2 n)) (Ai (Er (SV.ls 3 n)) (Ai (qe5 n) (Ai (qca n) (Ai (qe5 n) tI))))))))) (Ai r0 tI)))))))))))))
theorem qq5 {l:List Int} (h0:0<l.length) (hn:0+l.length≤1000000) :
 Fn 151 1 [.ls 0 l.length] [(0,0,zrI l)] (.ls 1 l.length) 1 [(1,0,zrI l)]:=
 Fx [(1,2)] [.t false]
  (qwo l.length) (Ai (qee 3 l.length (ziV l)) tI) (Ai h0 (Ai hn tI))
theorem qCE {ad:Addr} {c:Nat} :
 Fn 151 0 [.pv (.slice (some ad) 0 c)] [] (.ls 0 0) 1 [(0,0,.row 3 1 0 [])]:=
 Fz [(0,1)] [.k]
  (qaG (qaK [(0,1)]) [(0,0,.row 3 1 0 [])]) (Ai (Nat.zero_le _:0+0≤1000000) tI)
theorem quA {c:Nat}:Pure Tryz.prog 151 #[.slice none 0 c] (.slice none 0 0):=
 qaA (args:=[.slice none 0 c]) 200 [] (Ai rfl tI) (by kernel_rfl)
theorem qqm {l:List Int} (h0:0<l.length) (hn:0+l.length≤1000000) :
 Fn 242 1 [.ls 0 l.length] [(0,0,zrI l)] (.ls 1 l.length) 1 [(1,0,zrI l)]:=
 Fx [(1,2)] [.t false]
  (qwo l.length) (Ai (qee 3 l.length (ziV l)) tI) (Ai h0 (Ai hn tI))
theorem qCB {ad:Addr} {c:Nat} :
 Fn 242 0 [.pv (.slice (some ad) 0 c)] [] (.ls 0 0) 1 [(0,0,.row 3 1 0 [])]:=
 Fz [(0,1)] [.k]
  (qaG (qaK [(0,1)]) [(0,0,.row 3 1 0 [])]) (Ai (Nat.zero_le _:0+0≤1000000) tI)
theorem qvm {c:Nat}:Pure Tryz.prog 242 #[.slice none 0 c] (.slice none 0 0):=
 qaA (args:=[.slice none 0 c]) 200 [] (Ai rfl tI) (by kernel_rfl)
theorem qqC {l:List Bool} (h0:0<l.length) (hn:0+l.length≤1000000) :
 Fn 243 1 [.ls 0 l.length] [(0,0,zrB l)] (.ls 1 l.length) 1 [(1,0,zrB l)]:=
 Fx [(1,2)] [.t false]
  (qwo l.length) (Ai (qee 4 l.length (zbV l)) tI) (Ai h0 (Ai hn tI))
theorem qDI {ad:Addr} {c:Nat} :
 Fn 243 0 [.pv (.slice (some ad) 0 c)] [] (.ls 0 0) 1 [(0,0,.row 4 1 0 [])]:=
 Fz [(0,1)] [.k]
  (qaG (qaK [(0,1)]) [(0,0,.row 4 1 0 [])]) (Ai (Nat.zero_le _:0+0≤1000000) tI)
theorem quc {c:Nat}:Pure Tryz.prog 243 #[.slice none 0 c] (.slice none 0 0):=
 qaA (args:=[.slice none 0 c]) 200 [] (Ai rfl tI) (by kernel_rfl)
theorem wti {l:List Int} {x y:Int} (hin:0≤x∧x<(l.length:Int)) (hl:x.toNat<l.length) (hc:Fn 242 1 [.ls 0 l.length] [(0,0,zrI l)] (.ls 1 l.length) 1 [(1,0,zrI l)]) :
 Fn 225 1 [.ls 0 l.length,.pv (iV x),.pv (iV y)] [(0,0,zrI l)] (.ls 1 l.length) 1 [(1,0,.row 3 1 l.length (ziV (l.set x.toNat y)))]:=
 Fz [(1,1)] [Cf hc [0],.w (ziV (l.set x.toNat y))]
  (qaG (qaK [(1,1)]) [(1,0,.row 3 1 l.length (ziV (l.set x.toNat y)))]) (Co hc [0] 1 (Ai hin (Ai (qh7 l x.toNat y hl) (Ai (qbC l x.toNat hl) tI))))
theorem qCQ {l:List Bool} {x:Int} (hin:0≤x∧x<(l.length:Int)) (hl:x.toNat<l.length) (hc:Fn 243 1 [.ls 0 l.length] [(0,0,zrB l)] (.ls 1 l.length) 1 [(1,0,zrB l)]) :
 Fn 226 1 [.ls 0 l.length,.pv (iV x),.pv (.bool true)] [(0,0,zrB l)] (.ls 1 l.length) 1 [(1,0,.row 4 1 l.length (zbV (l.set x.toNat true)))]:=
 Fz [(1,1)] [Cf hc [0],.w (zbV (l.set x.toNat true))]
  (qaG (qaK [(1,1)]) [(1,0,.row 4 1 l.length (zbV (l.set x.toNat true)))]) (Co hc [0] 1 (Ai hin (Ai (qwI l x.toNat true hl) (Ai (qfE l x.toNat hl) tI))))
theorem qEf {l:List Bool} {x:Int} (hin:0≤x∧x<(l.length:Int)) (hl:x.toNat<l.length) (hc:Fn 243 1 [.ls 0 l.length] [(0,0,zrB l)] (.ls 1 l.length) 1 [(1,0,zrB l)]) :
 Fn 226 1 [.ls 0 l.length,.pv (iV x),.pv (.bool false)] [(0,0,zrB l)] (.ls 1 l.length) 1 [(1,0,.row 4 1 l.length (zbV (l.set x.toNat false)))]:=
 Fz [(1,1)] [Cf hc [0],.w (zbV (l.set x.toNat false))]
  (qaG (qaK [(1,1)]) [(1,0,.row 4 1 l.length (zbV (l.set x.toNat false)))]) (Co hc [0] 1 (Ai hin (Ai (qwI l x.toNat false hl) (Ai (qfE l x.toNat hl) tI))))
theorem qCX {z:Int} (h0:decide (z<0)=false) (hs:iV (IntKind.i64.wrap (z-0))=iV (z)) (hg:decide (z>0)=true) (a0:0≤z) (a1:z≤1000000) :
 Fn 259 0 [.pv (.slice none 0 0),.pv (iV (z))] [] (.ls 0 0) 1 [(0,0,.row 3 1 0 [])]:=
 Fz [(0,1)] [.t false,.k,Re hs,.t true,.w []]
  (qaG (qaK [(0,1)]) [(0,0,.row 3 1 0 [])]) (Ai h0 (Ai hs (Ai hg (Ai a0 (Ai a1 (Ai (Int.le_refl (0:Int)) (Ai (Nat.zero_le z.toNat) tI)))))))
theorem qFj {fr:List Int} {x:Int} (q1:iV (IntKind.i64.wrap ((0:Int)+(fr.length:Int)))=iV (fr.length:Int)) (n1:decide ((fr.length:Int)<0)=false) (q2:iV (IntKind.i64.wrap ((fr.length:Int)+1))=iV (((fr.length+1:Nat):Int))) (n2:decide (((fr.length+1:Nat):Int)<0)=false) (hgr:Fn 259 0 [.pv (.slice none 0 0),.pv (iV (((fr.length+1:Nat):Int)))] [] (.ls 0 0) 1 [(0,0,.row 3 1 0 [])]) (a1:0+fr.length≤1000000) (a2:0+fr.length+1≤1000000) :
 Fn 245 3 [.ps 2 0 2 2] [(2,0,.ls 0 fr.length),(2,1,.ps 1 0 1 1),(1,0,.pv (iV x)),(0,0,zrI fr)] (.ls 3 (fr.length+1)) 1 [(3,0,.row 3 1 (fr.length+1) (ziV (fr++[x])))]:=
 Fx [(3,5)] [.k,Re q1,.t false,.k,.k,Re q2,.t false,.k,.k,Cf hgr [],.k,.k,.k,.k,.k]
  (qyN fr) (Ai (qpz fr x) tI) (Ai q1 (Ai n1 (Ai q2 (Ai n2 (Co hgr [] 3 (Ai a1 (Ai a2 tI)))))))
abbrev qil (b:List Bool) (fr:List Int) (u:List Int):HpL:=[(0,0,zrI u),(1,0,zrB b),(2,0,zrI fr)]
theorem qw4 {u fr:List Int} {b:List Bool} {hi hw:Int} (hh:Fn 231 3 [.ag [.ls 0 u.length,.ls 1 b.length,.ls 2 fr.length],.pv (iV (hi))] (qil b fr u) (.pv (.bool false)) 0 []) :
 Fn 220 3 [.ag [.ls 0 u.length,.ls 1 b.length,.ls 2 fr.length],.pv (.agg #[iV hi,iV hw])] (qil b fr u) (.pv (.bool false)) 0 []:=
 Fz [] [Cf hh [0,1,2]]
  tI (Co hh [0,1,2] 5 tI)
abbrev qC8 (b:List Bool) (fr:List Int) (hi:Int) (u:List Int):Prop:=Fn 231 3 [.ag [.ls 0 u.length,.ls 1 b.length,.ls 2 fr.length],.pv (iV (hi))] (qil b fr u) (.pv (.bool true)) 0 []
theorem qtj {u fr:List Int} {b:List Bool} {hi hw:Int} (hh:qC8 b fr hi u) (hib:0≤hi∧hi<(b.length:Int)) (hb:b[hi.toNat]?=some false) :
 Fn 220 3 [.ag [.ls 0 u.length,.ls 1 b.length,.ls 2 fr.length],.pv (.agg #[iV hi,iV hw])] (qil b fr u) (.pv (.bool false)) 0 []:=
 Fz [] [Cf hh [0,1,2],.r (.bool false)]
  tI (Co hh [0,1,2] 5 (Ai hib (Ai (qfy hb) tI)))
theorem qt9 {u fr:List Int} {b:List Bool} {y hi hw:Int} (hh:qC8 b fr hi u) (hib:0≤hi∧hi<(b.length:Int)) (hb:b[hi.toNat]?=some true) (hiu:0≤hi∧hi<(u.length:Int)) (hue:u[hi.toNat]?=some y) (he:(y==hw)=true) :
 Fn 220 3 [.ag [.ls 0 u.length,.ls 1 b.length,.ls 2 fr.length],.pv (.agg #[iV hi,iV hw])] (qil b fr u) (.pv (.bool true)) 0 []:=
 Fz [] [Cf hh [0,1,2],.r (.bool true),.r (iV y),.t true]
  tI (Co hh [0,1,2] 5 (Ai hib (Ai (qfy hb) (Ai hiu (Ai (qeU hue) (Ai he tI))))))
theorem qpo {u fr:List Int} {b:List Bool} {y hi hw:Int} (hh:qC8 b fr hi u) (hib:0≤hi∧hi<(b.length:Int)) (hb:b[hi.toNat]?=some true) (hiu:0≤hi∧hi<(u.length:Int)) (hue:u[hi.toNat]?=some y) (he:(y==hw)=false) :
 Fn 220 3 [.ag [.ls 0 u.length,.ls 1 b.length,.ls 2 fr.length],.pv (.agg #[iV hi,iV hw])] (qil b fr u) (.pv (.bool false)) 0 []:=
 Fz [] [Cf hh [0,1,2],.r (.bool true),.r (iV y),.t false]
  tI (Co hh [0,1,2] 5 (Ai hib (Ai (qfy hb) (Ai hiu (Ai (qeU hue) (Ai he tI))))))
abbrev qwN (b:List Bool) (fr:List Int) (u:List Int):Prop:=Fn 166 3 [.ag [.ls 0 u.length,.ls 1 b.length,.ls 2 fr.length]] (qil b fr u) (.pv (iV (0))) 0 []
theorem qqB {u fr:List Int} {b:List Bool} {hi hw:Int} (hc:qwN b fr u) (hl:Fn 220 3 [.ag [.ls 0 u.length,.ls 1 b.length,.ls 2 fr.length],.pv (.agg #[iV hi,iV hw])] (qil b fr u) (.pv (.bool true)) 0 []) :
 Fn 196 3 [.ag [.ls 0 u.length,.ls 1 b.length,.ls 2 fr.length],.pv (.agg #[iV hi,iV hw])] (qil b fr u) (.pv (.tuple #[.bool true,iV 0])) 0 []:=
 Fz [] [Cf hc [0,1,2],.k,Cf hl [0,1,2]]
  tI (Co hc [0,1,2] 5 (Co hl [0,1,2] 5 tI))
theorem qoi {u fr:List Int} {b:List Bool} {hi hw:Int} (hc:qwN b fr u) (hl:Fn 220 3 [.ag [.ls 0 u.length,.ls 1 b.length,.ls 2 fr.length],.pv (.agg #[iV hi,iV hw])] (qil b fr u) (.pv (.bool false)) 0 []) :
 Fn 196 3 [.ag [.ls 0 u.length,.ls 1 b.length,.ls 2 fr.length],.pv (.agg #[iV hi,iV hw])] (qil b fr u) (.pv (.tuple #[.bool false,iV 0])) 0 []:=
 Fz [] [Cf hc [0,1,2],.k,Cf hl [0,1,2]]
  tI (Co hc [0,1,2] 5 (Co hl [0,1,2] 5 tI))
theorem qtW {u fr:List Int} {b:List Bool} (hc:qwN b fr u) (hl:iV (IntKind.i64.wrap ((fr.length:Int)-1))=iV (-1)) :
 Fn 200 3 [.ag [.ls 0 u.length,.ls 1 b.length,.ls 2 fr.length]] (qil b fr u) (.pv (.tuple #[.agg #[.slice none 0 0,.slice none 0 0,.slice none 0 0],.agg #[iV 0,iV 0],iV 18])) 0 []:=
 Fz [] [Cf hc [0,1,2],.k,Re hl,.k]
  tI (Co hc [0,1,2] 6 (Ai hl tI))
theorem qtr {u fr:List Int} {b:List Bool} {x y:Int} {m:Nat} (hc:qwN b fr u) (hl:iV (IntKind.i64.wrap ((fr.length:Int)-1))=iV (m:Int)) (h0:decide ((m:Int)<0)=false) (hm:0≤(m:Int)∧(m:Int)<(fr.length:Int)) (hf:fr[m]?=some x) (hx:0≤x∧x<(u.length:Int)) (hu:u[x.toNat]?=some y) (hy:(y==1000000)=true) :
 Fn 200 3 [.ag [.ls 0 u.length,.ls 1 b.length,.ls 2 fr.length]] (qil b fr u) (.pv (.tuple #[.agg #[.slice none 0 0,.slice none 0 0,.slice none 0 0],.agg #[iV 0,iV 0],iV 18])) 0 []:=
 Fz [] [Cf hc [0,1,2],.k,Re hl,.t false,.r (iV x),.r (iV y),.t true]
  tI (Co hc [0,1,2] 6 (Ai hl (Ai h0 (Ai hm (Ai (qbb hf) (Ai hx (Ai (qeU hu) (Ai hy tI))))))))
theorem qDD {u fr:List Int} {b:List Bool} {x y z:Int} {m:Nat} (hc:qwN b fr u) (hl:iV (IntKind.i64.wrap ((fr.length:Int)-1))=iV (m:Int)) (h0:decide ((m:Int)<0)=false) (hm:0≤(m:Int)∧(m:Int)<(fr.length:Int)) (hf:fr[m]?=some x) (hx:0≤x∧x<(u.length:Int)) (hu:u[x.toNat]?=some y) (hy:(y==1000000)=false) (h1:iV (IntKind.i64.wrap (y+1))=iV (z)) (w1:Fn 225 1 [.ls 0 u.length,.pv (iV x),.pv (iV z)] [(0,0,zrI u)] (.ls 1 u.length) 1 [(1,0,.row 3 1 u.length (ziV (u.set x.toNat z)))]) (w2:Fn 226 1 [.ls 0 b.length,.pv (iV x),.pv (.bool true)] [(0,0,zrB b)] (.ls 1 b.length) 1 [(1,0,.row 4 1 b.length (zbV (b.set x.toNat true)))]) (hml:m≤fr.length) (w3:Fn 151 1 [.lq 0 1 0 m] [(0,0,zrI fr)] (.ls 1 m) 1 [(1,0,.row 3 1 m (ziV (fr.take m)))]) :
 Fn 200 3 [.ag [.ls 0 u.length,.ls 1 b.length,.ls 2 fr.length]] (qil b fr u) (.tu [.ag [.ls 3 u.length,.ls 4 b.length,.ls 5 m],.one (.pv (.agg #[iV x,iV z])),.one (.pv (iV 0))]) 3 [(3,0,.row 3 1 u.length (ziV (u.set x.toNat z))),(4,0,.row 4 1 b.length (zbV (b.set x.toNat true))),(5,0,.row 3 1 m (ziV (fr.take m)))]:=
 Fz [(3,7),(4,8),(5,9)] [Cf hc [0,1,2],.k,Re hl,.t false,.r (iV x),.r (iV y),.t false,.r (iV x),.r (iV x),.r (iV y),Re h1,.md,Cf w1 [0],Cf w2 [1],.k,Cf w3 [2]]
  (qaG (qaK [(3,7),(4,8),(5,9)]) [(3,0,.row 3 1 u.length (ziV (u.set x.toNat z))),(4,0,.row 4 1 b.length (zbV (b.set x.toNat true))),(5,0,.row 3 1 m (ziV (fr.take m)))]) (Co hc [0,1,2] 6 (Ai hl (Ai h0 (Ai hm (Ai (qbb hf) (Ai hx (Ai (qeU hu) (Ai hy (Ai hm (Ai (qbb hf) (Ai hm (Ai (qbb hf) (Ai hx (Ai (qeU hu) (Ai h1 (Co w1 [0] 7 (Co w2 [1] 8 (Ai tI (Ai (Int.natCast_nonneg m) (Ai (Nat.zero_le m) (Ai hml (Co w3 [2] 9 tI))))))))))))))))))))))
theorem qD5 {u fr:List Int} {b:List Bool} {hi hw:Int} (hc:qwN b fr u) (hl:Fn 220 3 [.ag [.ls 0 u.length,.ls 1 b.length,.ls 2 fr.length],.pv (.agg #[iV hi,iV hw])] (qil b fr u) (.pv (.bool true)) 0 []) (w1:Fn 151 1 [.ls 0 u.length] [(0,0,zrI u)] (.ls 1 u.length) 1 [(1,0,zrI u)]) (w2:Fn 226 1 [.ls 0 b.length,.pv (iV hi),.pv (.bool false)] [(0,0,zrB b)] (.ls 1 b.length) 1 [(1,0,.row 4 1 b.length (zbV (b.set hi.toNat false)))]) (w3:Fn 245 3 [.ps 2 0 2 2] [(2,0,.ls 0 fr.length),(2,1,.ps 1 0 1 1),(1,0,.pv (iV hi)),(0,0,zrI fr)] (.ls 3 (fr.length+1)) 1 [(3,0,.row 3 1 (fr.length+1) (ziV (fr++[hi])))]) :
 Fn 229 3 [.ag [.ls 0 u.length,.ls 1 b.length,.ls 2 fr.length],.pv (.agg #[iV hi,iV hw])] (qil b fr u) (.tu [.ag [.ls 3 u.length,.ls 4 b.length,.ls 5 (fr.length+1)],.one (.pv (iV 0))]) 3 [(3,0,.row 3 1 u.length (ziV (u))),(4,0,.row 4 1 b.length (zbV (b.set hi.toNat false))),(5,0,.row 3 1 (fr.length+1) (ziV (fr++[hi])))]:=
 Fz [(3,6),(4,7),(5,10)] [Cf hc [0,1,2],.k,Cf hl [0,1,2],.k,.md,Cf w1 [0],Cf w2 [1],Cf w3 [2,8,9]]
  (qaG (qaK [(3,6),(4,7),(5,10)]) [(3,0,.row 3 1 u.length (ziV (u))),(4,0,.row 4 1 b.length (zbV (b.set hi.toNat false))),(5,0,.row 3 1 (fr.length+1) (ziV (fr++[hi])))]) (Co hc [0,1,2] 6 (Co hl [0,1,2] 6 (Co w1 [0] 6 (Co w2 [1] 7 (Co w3 [2,8,9] 10 tI)))))
end Go.Proofs.YtkjaanhddkkodaaGreat
