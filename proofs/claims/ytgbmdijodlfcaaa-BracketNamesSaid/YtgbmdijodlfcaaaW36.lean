/-
  Joined: Qi, Qm, Qx, Qo, Qy. Conditions: none.
-/
import Derived.Test.YtgbmdijodlfcaaaQh
import Derived.Test.YtgbmdijodlfcaaaW21
import Derived.Test.YtgbmdijodlfcaaaW24
import Derived.Test.YtgbmdijodlfcaaaZj
namespace Go.Proofs.Ytgbmdijodlfcaaa
set_option maxRecDepth 100000
open Go.RowKit
theorem qhz {l:List Int} (hn:l.length≤1000000):Fn 27 2 [.ls 0 l.length,.ls 1 l.length] [(0,0,zrI l),(1,0,zrI l)] (.pv (.bool true)) 0 []:=
 qnh (hl:=by simp) (r0:=RunsL.roundsZ (N:=l.length) (fun k=>[(0,.ls 0 l.length),(1,.ls 1 l.length),(5,.pv (iV (k:Int)))]) (fun _=>[(0,0,zrI l),(1,0,zrI l)]) l.length 0 (by omega) (fun k _ hk r=>by
  obtain⟨x,hx⟩:=qaA hk
  exact qkS (hk:=hx) (hin:=qaM hk) (hlt:=dt (by omega)) (hne:=by simp) (hs:=qaz (by omega)) r) (qni (hge:=df (by omega))))
theorem qmv {b:Br} (h1:b.p.length≤1000000) (h2:b.w.length≤1000000):Fn 17 4 [brS 0 1 b,brS 2 3 b] [(0,0,zrI b.p),(1,0,zrI b.w),(2,0,zrI b.p),(3,0,zrI b.w)] (.pv (.bool true)) 0 []:=
 qsm (h1:=qhz h1) (h2:=qhz h2)
section
variable {s:List Pt} {tn td:Int} (htn:I64 tn) (htd:I64 td)
variable {b:Br} {z x:Int}
end
end Go.Proofs.Ytgbmdijodlfcaaa

namespace Go.Proofs.Ytgbmdijodlfcaaa
set_option maxRecDepth 100000
open Go.RowKit
theorem qny {z:Int} :
 Pure Try.prog 11 #[iV z] (qac z 1):=
 qal (args:=[iV z]) 300 []
  (Ai rfl tI) (by kernel_rfl)
theorem qqO :
 Fn 10 0 [] [] (.ag [.ls 0 3]) 1 [(0,0,qaq qaj)]:=
 Fz [(0,1)] [.lw]
  (qcv (qaV [(0,1)]) [(0,0,qaq qaj)]) tI
theorem qqg (hg:Fn 10 0 [] [] (.ag [.ls 0 3]) 1 [(0,0,qaq qaj)]) (hat0:Pure Try.prog 11 #[iV (0)] (qac 0 1)) (hb:Fn 9 2 [qaF 0 qaj,.pv (qac 0 1),.ls 1 [1,2,-1,5].length] [(0,0,qaq qaj),(1,0,zrI [1,2,-1,5])] (.tu [qkD 2 3 (Br.mk [1,2,-1,5] [2,2,5]),.one (.pv (iV 0))]) 2 [(2,0,zrI (Br.mk [1,2,-1,5] [2,2,5]).p),(3,0,zrI (Br.mk [1,2,-1,5] [2,2,5]).w)]) (hw:Fn 12 2 [brS 0 1 (Br.mk [1,2,-1,5] [2,2,5])] [(0,0,zrI (Br.mk [1,2,-1,5] [2,2,5]).p),(1,0,zrI (Br.mk [1,2,-1,5] [2,2,5]).w)] (.pv (.tuple #[iV 2,iV 0])) 0 []) (hs:Fn 14 3 [brS 0 1 (Br.mk [1,2,-1,5] [2,2,5]),qaF 2 qaj,.pv (qac 0 1),.pv (iV (1)),.pv (iV (-1))] [(0,0,zrI (Br.mk [1,2,-1,5] [2,2,5]).p),(1,0,zrI (Br.mk [1,2,-1,5] [2,2,5]).w),(2,0,qaq qaj)] (.tu [qkD 3 4 (Br.mk [1,-1,-1,5] [1,1,5]),.one (.ls 5 [1,0].length),.one (.pv (iV 0))]) 3 [(3,0,zrI (Br.mk [1,-1,-1,5] [1,1,5]).p),(4,0,zrI (Br.mk [1,-1,-1,5] [1,1,5]).w),(5,0,zrI [1,0])]) (hp:Fn 13 2 [brS 0 1 (Br.mk [1,2,-1,5] [2,2,5]),.pv (iV (3))] [(0,0,zrI (Br.mk [1,2,-1,5] [2,2,5]).p),(1,0,zrI (Br.mk [1,2,-1,5] [2,2,5]).w)] (.tu [.one (.ls 2 [2,0].length),.one (.pv (iV 0))]) 1 [(2,0,zrI [2,0])]) (h1:Fn 27 2 [.ls 0 [2,2,5].length,.ls 1 [2,2,5].length] [(0,0,zrI [2,2,5]),(1,0,zrI [2,2,5])] (.pv (.bool true)) 0 []) (h2:Fn 27 2 [.ls 0 [1,1,5].length,.ls 1 [1,1,5].length] [(0,0,zrI [1,1,5]),(1,0,zrI [1,1,5])] (.pv (.bool true)) 0 []) (h3:Fn 27 2 [.ls 0 [1,0].length,.ls 1 [1,0].length] [(0,0,zrI [1,0]),(1,0,zrI [1,0])] (.pv (.bool true)) 0 []) (h4:Fn 27 2 [.ls 0 [2,0].length,.ls 1 [2,0].length] [(0,0,zrI [2,0]),(1,0,zrI [2,0])] (.pv (.bool true)) 0 []) :
 Fn 18 0 [] [] (.pv (.bool true)) 0 []:=
 qgA 600 [] [Cf hg [],Rf hat0,.lw,Cf hb [0,1],Cf hw [2,3],.md,Cf hg [],Rf hat0,Cf hs [2,3,5],Cf hp [2,3],.k,.lw,Cf h1 [3,11],.k,.k,.k,.lw,Cf h2 [7,12],.lw,Cf h3 [8,13],.k,.lw,Cf h4 [10,14]]
  tI (Co hg [] 0 (Ai hat0 (Co hb [0,1] 2 (Co hw [2,3] 5 (Co hg [] 5 (Ai hat0 (Co hs [2,3,5] 6 (Co hp [2,3] 10 (Co h1 [3,11] 12 (Co h2 [7,12] 13 (Co h3 [8,13] 14 (Co h4 [10,14] 15 tI)))))))))))) (by kernel_rfl)
end Go.Proofs.Ytgbmdijodlfcaaa

namespace Go.Proofs.Ytgbmdijodlfcaaa
set_option maxRecDepth 100000
open Go.RowKit
abbrev qau:List Pt:=List.replicate 65 (Pt.mk 0 0 0)
abbrev qe7:HpL:=[(1,0,.ls 0 65),(0,0,qaq qau),(29,0,zrI []),(42,0,.pv (.slice none 0 0)),(42,1,.pv (.slice none 0 0)),(42,2,.ls 30 ([1]:List Int).length),(42,3,.ls 31 ([1]:List Int).length),(42,4,.ls 32 ([1,1]:List Int).length),(42,5,.ls 33 ([1]:List Int).length),(42,6,.ls 34 ([-2]:List Int).length),(42,7,.pv (.slice none 0 0)),(42,8,.ls 35 ([65536]:List Int).length),(42,9,.pv (.slice none 0 0)),(42,10,.ls 36 ([1,2]:List Int).length),(42,11,.ls 37 ([3]:List Int).length),(42,12,.ls 38 ([1,-1]:List Int).length),(42,13,.ls 39 ([-1]:List Int).length),(42,14,.ls 40 (List.replicate 65 (0:Int)).length),(42,15,.ls 41 (List.replicate 64 (0:Int)).length),(30,0,zrI ([1]:List Int)),(31,0,zrI ([1]:List Int)),(32,0,zrI ([1,1]:List Int)),(33,0,zrI ([1]:List Int)),(34,0,zrI ([-2]:List Int)),(35,0,zrI ([65536]:List Int)),(36,0,zrI ([1,2]:List Int)),(37,0,zrI ([3]:List Int)),(38,0,zrI ([1,-1]:List Int)),(39,0,zrI ([-1]:List Int)),(40,0,zrI (List.replicate 65 (0:Int))),(41,0,zrI (List.replicate 64 (0:Int)))]
abbrev qq7:TmL:=[(1,.pp 1 0),(3,.pv (iV 4)),(5,.pv (iV 8)),(7,.pv (iV 2)),(9,.pv (iV 2)),(11,.pv (iV 6)),(13,.pv (iV 14)),(15,.pv (iV 6)),(19,.pv (iV 42)),(22,.pv (iV 5)),(23,.pv (iV 0)),(24,.ls 29 0),(25,.pv (iV 0)),(26,.ps 42 0 8 8),(27,.pv (iV (1)))]
abbrev qrg:TmL:=[(1,.pp 1 0),(3,.pv (iV 4)),(5,.pv (iV 8)),(7,.pv (iV 2)),(9,.pv (iV 2)),(11,.pv (iV 6)),(13,.pv (iV 14)),(15,.pv (iV 6)),(19,.pv (iV 42)),(22,.pv (iV 5)),(23,.pv (iV 0)),(24,.ls 29 0),(25,.pv (iV 0)),(26,.ps 42 0 8 8),(27,.pv (iV (0)))]
theorem qpT (c1:Pure Try.prog 12 #[.agg #[.slice none 0 0,.slice none 0 0]] (.tuple #[iV 0,iV 8])) (c2:Pure Try.prog 13 #[.agg #[.slice none 0 0,.slice none 0 0],iV (-1)] (.tuple #[.slice none 0 0,iV 8])) (c3:Fn 14 1 [.pv (.agg #[.slice none 0 0,.slice none 0 0]),qaF 0 qau,.pv (qac 0 0),.pv (iV (-1)),.pv (iV (9))] [(0,0,qaq qau)] (.pv (.tuple #[.agg #[.slice none 0 0,.slice none 0 0],.slice none 0 0,iV 8])) 0 []) (c4:Fn 15 1 [.pv (.agg #[.slice none 0 0,.slice none 0 0]),qaF 0 qau,.pv (qac 0 0)] [(0,0,qaq qau)] (.pv (.tuple #[.bool false,iV 8])) 0 []) (c5:Pure Try.prog 16 #[.agg #[.slice none 0 0,.slice none 0 0]] (iV (8))) {e:Exit} {tm2:TmL} {hp2:HpL}
 (r:Rl 0 0 3 0 451 43 (qq7) (qe7) e tm2 hp2):Rl 0 0 3 0 451 43 (qrg) (qe7) e tm2 hp2:=
 RunsL.next [] 400 [.k,Rf c1,Rf c2,Cf c3 [0],Cf c4 [0],Rf c5,.k,.k,.k,.k,.k,.k]
  (Ro (Ai c1 (Ai c2 (Co c3 [0] 43 (Co c4 [0] 44 (Ai c5 tI)))))) r
abbrev qrd:TmL:=[(1,.pp 1 0),(3,.pv (iV 4)),(5,.pv (iV 8)),(7,.pv (iV 2)),(9,.pv (iV 2)),(11,.pv (iV 6)),(13,.pv (iV 14)),(15,.pv (iV 6)),(19,.pv (iV 42)),(22,.pv (iV 5)),(23,.pv (iV 0)),(24,.ls 29 0),(25,.pv (iV 0)),(26,.ps 42 0 8 8),(27,.pv (iV (2)))]
abbrev qne:HpL:=[(0,0,zrI (Br.mk ([1]:List Int) ([1]:List Int)).p),(1,0,zrI (Br.mk ([1]:List Int) ([1]:List Int)).w)]
abbrev qoO:HpL:=[(0,0,zrI (Br.mk ([1]:List Int) ([1]:List Int)).p),(1,0,zrI (Br.mk ([1]:List Int) ([1]:List Int)).w),(2,0,qaq qau)]
theorem qp0 (c1:Fn 12 2 [brS 0 1 (Br.mk ([1]:List Int) ([1]:List Int))] qne (.pv (.tuple #[iV 0,iV 8])) 0 []) (c2:Fn 13 2 [brS 0 1 (Br.mk ([1]:List Int) ([1]:List Int)),.pv (iV (-1))] qne (.pv (.tuple #[.slice none 0 0,iV 8])) 0 []) (c3:Fn 14 3 [brS 0 1 (Br.mk ([1]:List Int) ([1]:List Int)),qaF 2 qau,.pv (qac 0 0),.pv (iV (-1)),.pv (iV (9))] qoO (.pv (.tuple #[.agg #[.slice none 0 0,.slice none 0 0],.slice none 0 0,iV 8])) 0 []) (c4:Fn 15 3 [brS 0 1 (Br.mk ([1]:List Int) ([1]:List Int)),qaF 2 qau,.pv (qac 0 0)] qoO (.pv (.tuple #[.bool false,iV 8])) 0 []) (c5:Fn 16 2 [brS 0 1 (Br.mk ([1]:List Int) ([1]:List Int))] qne (.pv (iV (8))) 0 []) {e:Exit} {tm2:TmL} {hp2:HpL}
 (r:Rl 0 0 3 0 451 43 (qrd) (qe7) e tm2 hp2):Rl 0 0 3 0 451 43 (qq7) (qe7) e tm2 hp2:=
 RunsL.next [] 400 [.k,Cf c1 [30,31],Cf c2 [30,31],Cf c3 [30,31,0],Cf c4 [30,31,0],Cf c5 [30,31],.k,.k,.k,.k,.k,.k]
  (Ro (Co c1 [30,31] 43 (Co c2 [30,31] 43 (Co c3 [30,31,0] 43 (Co c4 [30,31,0] 44 (Co c5 [30,31] 44 tI)))))) r
abbrev qrf:TmL:=[(1,.pp 1 0),(3,.pv (iV 4)),(5,.pv (iV 8)),(7,.pv (iV 2)),(9,.pv (iV 2)),(11,.pv (iV 6)),(13,.pv (iV 14)),(15,.pv (iV 6)),(19,.pv (iV 42)),(22,.pv (iV 5)),(23,.pv (iV 0)),(24,.ls 29 0),(25,.pv (iV 0)),(26,.ps 42 0 8 8),(27,.pv (iV (3)))]
abbrev qmE:HpL:=[(0,0,zrI (Br.mk ([1,1]:List Int) ([1]:List Int)).p),(1,0,zrI (Br.mk ([1,1]:List Int) ([1]:List Int)).w)]
abbrev qoe:HpL:=[(0,0,zrI (Br.mk ([1,1]:List Int) ([1]:List Int)).p),(1,0,zrI (Br.mk ([1,1]:List Int) ([1]:List Int)).w),(2,0,qaq qau)]
theorem qpQ (c1:Fn 12 2 [brS 0 1 (Br.mk ([1,1]:List Int) ([1]:List Int))] qmE (.pv (.tuple #[iV 0,iV 8])) 0 []) (c2:Fn 13 2 [brS 0 1 (Br.mk ([1,1]:List Int) ([1]:List Int)),.pv (iV (-1))] qmE (.pv (.tuple #[.slice none 0 0,iV 8])) 0 []) (c3:Fn 14 3 [brS 0 1 (Br.mk ([1,1]:List Int) ([1]:List Int)),qaF 2 qau,.pv (qac 0 0),.pv (iV (-1)),.pv (iV (9))] qoe (.pv (.tuple #[.agg #[.slice none 0 0,.slice none 0 0],.slice none 0 0,iV 8])) 0 []) (c4:Fn 15 3 [brS 0 1 (Br.mk ([1,1]:List Int) ([1]:List Int)),qaF 2 qau,.pv (qac 0 0)] qoe (.pv (.tuple #[.bool false,iV 8])) 0 []) (c5:Fn 16 2 [brS 0 1 (Br.mk ([1,1]:List Int) ([1]:List Int))] qmE (.pv (iV (8))) 0 []) {e:Exit} {tm2:TmL} {hp2:HpL}
 (r:Rl 0 0 3 0 451 43 (qrf) (qe7) e tm2 hp2):Rl 0 0 3 0 451 43 (qrd) (qe7) e tm2 hp2:=
 RunsL.next [] 400 [.k,Cf c1 [32,33],Cf c2 [32,33],Cf c3 [32,33,0],Cf c4 [32,33,0],Cf c5 [32,33],.k,.k,.k,.k,.k,.k]
  (Ro (Co c1 [32,33] 43 (Co c2 [32,33] 43 (Co c3 [32,33,0] 43 (Co c4 [32,33,0] 44 (Co c5 [32,33] 44 tI)))))) r
abbrev qq3:TmL:=[(1,.pp 1 0),(3,.pv (iV 4)),(5,.pv (iV 8)),(7,.pv (iV 2)),(9,.pv (iV 2)),(11,.pv (iV 6)),(13,.pv (iV 14)),(15,.pv (iV 6)),(19,.pv (iV 42)),(22,.pv (iV 5)),(23,.pv (iV 0)),(24,.ls 29 0),(25,.pv (iV 0)),(26,.ps 42 0 8 8),(27,.pv (iV (4)))]
theorem qqE (c1:Fn 12 1 [.ag [.ls 0 ([-2]:List Int).length,.pv (.slice none 0 0)]] [(0,0,zrI ([-2]:List Int))] (.pv (.tuple #[iV 0,iV 8])) 0 []) (c2:Fn 13 1 [.ag [.ls 0 ([-2]:List Int).length,.pv (.slice none 0 0)],.pv (iV (-1))] [(0,0,zrI ([-2]:List Int))] (.pv (.tuple #[.slice none 0 0,iV 8])) 0 []) (c3:Fn 14 2 [.ag [.ls 0 ([-2]:List Int).length,.pv (.slice none 0 0)],qaF 1 qau,.pv (qac 0 0),.pv (iV (-1)),.pv (iV (9))] [(0,0,zrI ([-2]:List Int)),(1,0,qaq qau)] (.pv (.tuple #[.agg #[.slice none 0 0,.slice none 0 0],.slice none 0 0,iV 8])) 0 []) (c4:Fn 15 2 [.ag [.ls 0 ([-2]:List Int).length,.pv (.slice none 0 0)],qaF 1 qau,.pv (qac 0 0)] [(0,0,zrI ([-2]:List Int)),(1,0,qaq qau)] (.pv (.tuple #[.bool false,iV 8])) 0 []) (c5:Fn 16 1 [.ag [.ls 0 ([-2]:List Int).length,.pv (.slice none 0 0)]] [(0,0,zrI ([-2]:List Int))] (.pv (iV (8))) 0 []) {e:Exit} {tm2:TmL} {hp2:HpL}
 (r:Rl 0 0 3 0 451 43 (qq3) (qe7) e tm2 hp2):Rl 0 0 3 0 451 43 (qrf) (qe7) e tm2 hp2:=
 RunsL.next [] 400 [.k,Cf c1 [34],Cf c2 [34],Cf c3 [34,0],Cf c4 [34,0],Cf c5 [34],.k,.k,.k,.k,.k,.k]
  (Ro (Co c1 [34] 43 (Co c2 [34] 43 (Co c3 [34,0] 43 (Co c4 [34,0] 44 (Co c5 [34] 44 tI)))))) r
abbrev qrk:TmL:=[(1,.pp 1 0),(3,.pv (iV 4)),(5,.pv (iV 8)),(7,.pv (iV 2)),(9,.pv (iV 2)),(11,.pv (iV 6)),(13,.pv (iV 14)),(15,.pv (iV 6)),(19,.pv (iV 42)),(22,.pv (iV 5)),(23,.pv (iV 0)),(24,.ls 29 0),(25,.pv (iV 0)),(26,.ps 42 0 8 8),(27,.pv (iV (5)))]
theorem qqt (c1:Fn 12 1 [.ag [.ls 0 ([65536]:List Int).length,.pv (.slice none 0 0)]] [(0,0,zrI ([65536]:List Int))] (.pv (.tuple #[iV 0,iV 8])) 0 []) (c2:Fn 13 1 [.ag [.ls 0 ([65536]:List Int).length,.pv (.slice none 0 0)],.pv (iV (-1))] [(0,0,zrI ([65536]:List Int))] (.pv (.tuple #[.slice none 0 0,iV 8])) 0 []) (c3:Fn 14 2 [.ag [.ls 0 ([65536]:List Int).length,.pv (.slice none 0 0)],qaF 1 qau,.pv (qac 0 0),.pv (iV (-1)),.pv (iV (9))] [(0,0,zrI ([65536]:List Int)),(1,0,qaq qau)] (.pv (.tuple #[.agg #[.slice none 0 0,.slice none 0 0],.slice none 0 0,iV 8])) 0 []) (c4:Fn 15 2 [.ag [.ls 0 ([65536]:List Int).length,.pv (.slice none 0 0)],qaF 1 qau,.pv (qac 0 0)] [(0,0,zrI ([65536]:List Int)),(1,0,qaq qau)] (.pv (.tuple #[.bool false,iV 8])) 0 []) (c5:Fn 16 1 [.ag [.ls 0 ([65536]:List Int).length,.pv (.slice none 0 0)]] [(0,0,zrI ([65536]:List Int))] (.pv (iV (8))) 0 []) {e:Exit} {tm2:TmL} {hp2:HpL}
 (r:Rl 0 0 3 0 451 43 (qrk) (qe7) e tm2 hp2):Rl 0 0 3 0 451 43 (qq3) (qe7) e tm2 hp2:=
 RunsL.next [] 400 [.k,Cf c1 [35],Cf c2 [35],Cf c3 [35,0],Cf c4 [35,0],Cf c5 [35],.k,.k,.k,.k,.k,.k]
  (Ro (Co c1 [35] 43 (Co c2 [35] 43 (Co c3 [35,0] 43 (Co c4 [35,0] 44 (Co c5 [35] 44 tI)))))) r
abbrev qre:TmL:=[(1,.pp 1 0),(3,.pv (iV 4)),(5,.pv (iV 8)),(7,.pv (iV 2)),(9,.pv (iV 2)),(11,.pv (iV 6)),(13,.pv (iV 14)),(15,.pv (iV 6)),(19,.pv (iV 42)),(22,.pv (iV 5)),(23,.pv (iV 0)),(24,.ls 29 0),(25,.pv (iV 0)),(26,.ps 42 0 8 8),(27,.pv (iV (6)))]
abbrev qnn:HpL:=[(0,0,zrI (Br.mk ([1,2]:List Int) ([3]:List Int)).p),(1,0,zrI (Br.mk ([1,2]:List Int) ([3]:List Int)).w)]
abbrev qoE:HpL:=[(0,0,zrI (Br.mk ([1,2]:List Int) ([3]:List Int)).p),(1,0,zrI (Br.mk ([1,2]:List Int) ([3]:List Int)).w),(2,0,qaq qau)]
theorem qqD (c1:Fn 12 2 [brS 0 1 (Br.mk ([1,2]:List Int) ([3]:List Int))] qnn (.pv (.tuple #[iV 0,iV 8])) 0 []) (c2:Fn 13 2 [brS 0 1 (Br.mk ([1,2]:List Int) ([3]:List Int)),.pv (iV (-1))] qnn (.pv (.tuple #[.slice none 0 0,iV 8])) 0 []) (c3:Fn 14 3 [brS 0 1 (Br.mk ([1,2]:List Int) ([3]:List Int)),qaF 2 qau,.pv (qac 0 0),.pv (iV (-1)),.pv (iV (9))] qoE (.pv (.tuple #[.agg #[.slice none 0 0,.slice none 0 0],.slice none 0 0,iV 8])) 0 []) (c4:Fn 15 3 [brS 0 1 (Br.mk ([1,2]:List Int) ([3]:List Int)),qaF 2 qau,.pv (qac 0 0)] qoE (.pv (.tuple #[.bool false,iV 8])) 0 []) (c5:Fn 16 2 [brS 0 1 (Br.mk ([1,2]:List Int) ([3]:List Int))] qnn (.pv (iV (8))) 0 []) {e:Exit} {tm2:TmL} {hp2:HpL}
 (r:Rl 0 0 3 0 451 43 (qre) (qe7) e tm2 hp2):Rl 0 0 3 0 451 43 (qrk) (qe7) e tm2 hp2:=
 RunsL.next [] 400 [.k,Cf c1 [36,37],Cf c2 [36,37],Cf c3 [36,37,0],Cf c4 [36,37,0],Cf c5 [36,37],.k,.k,.k,.k,.k,.k]
  (Ro (Co c1 [36,37] 43 (Co c2 [36,37] 43 (Co c3 [36,37,0] 43 (Co c4 [36,37,0] 44 (Co c5 [36,37] 44 tI)))))) r
abbrev qoL:TmL:=[(1,.pp 1 0),(3,.pv (iV 4)),(5,.pv (iV 8)),(7,.pv (iV 2)),(9,.pv (iV 2)),(11,.pv (iV 6)),(13,.pv (iV 14)),(15,.pv (iV 6)),(19,.pv (iV 42)),(22,.pv (iV 5)),(23,.pv (iV 0)),(24,.ls 29 0),(25,.pv (iV 0)),(26,.ps 42 0 8 8),(27,.pv (iV (7)))]
abbrev qmY:HpL:=[(0,0,zrI (Br.mk ([1,-1]:List Int) ([-1]:List Int)).p),(1,0,zrI (Br.mk ([1,-1]:List Int) ([-1]:List Int)).w)]
abbrev qoT:HpL:=[(0,0,zrI (Br.mk ([1,-1]:List Int) ([-1]:List Int)).p),(1,0,zrI (Br.mk ([1,-1]:List Int) ([-1]:List Int)).w),(2,0,qaq qau)]
theorem qpR (c1:Fn 12 2 [brS 0 1 (Br.mk ([1,-1]:List Int) ([-1]:List Int))] qmY (.pv (.tuple #[iV 0,iV 8])) 0 []) (c2:Fn 13 2 [brS 0 1 (Br.mk ([1,-1]:List Int) ([-1]:List Int)),.pv (iV (-1))] qmY (.pv (.tuple #[.slice none 0 0,iV 8])) 0 []) (c3:Fn 14 3 [brS 0 1 (Br.mk ([1,-1]:List Int) ([-1]:List Int)),qaF 2 qau,.pv (qac 0 0),.pv (iV (-1)),.pv (iV (9))] qoT (.pv (.tuple #[.agg #[.slice none 0 0,.slice none 0 0],.slice none 0 0,iV 8])) 0 []) (c4:Fn 15 3 [brS 0 1 (Br.mk ([1,-1]:List Int) ([-1]:List Int)),qaF 2 qau,.pv (qac 0 0)] qoT (.pv (.tuple #[.bool false,iV 8])) 0 []) (c5:Fn 16 2 [brS 0 1 (Br.mk ([1,-1]:List Int) ([-1]:List Int))] qmY (.pv (iV (8))) 0 []) {e:Exit} {tm2:TmL} {hp2:HpL}
 (r:Rl 0 0 3 0 451 43 (qoL) (qe7) e tm2 hp2):Rl 0 0 3 0 451 43 (qre) (qe7) e tm2 hp2:=
 RunsL.next [] 400 [.k,Cf c1 [38,39],Cf c2 [38,39],Cf c3 [38,39,0],Cf c4 [38,39,0],Cf c5 [38,39],.k,.k,.k,.k,.k,.k]
  (Ro (Co c1 [38,39] 43 (Co c2 [38,39] 43 (Co c3 [38,39,0] 43 (Co c4 [38,39,0] 44 (Co c5 [38,39] 44 tI)))))) r
abbrev qpv:TmL:=[(1,.pp 1 0),(3,.pv (iV 4)),(5,.pv (iV 8)),(7,.pv (iV 2)),(9,.pv (iV 2)),(11,.pv (iV 6)),(13,.pv (iV 14)),(15,.pv (iV 6)),(19,.pv (iV 42)),(22,.pv (iV 5)),(23,.pv (iV 0)),(24,.ls 29 0),(25,.pv (iV 0)),(26,.ps 42 0 8 8),(27,.pv (iV (8)))]
abbrev qmT:HpL:=[(0,0,zrI (Br.mk (List.replicate 65 (0:Int)) (List.replicate 64 (0:Int))).p),(1,0,zrI (Br.mk (List.replicate 65 (0:Int)) (List.replicate 64 (0:Int))).w)]
abbrev qoy:HpL:=[(0,0,zrI (Br.mk (List.replicate 65 (0:Int)) (List.replicate 64 (0:Int))).p),(1,0,zrI (Br.mk (List.replicate 65 (0:Int)) (List.replicate 64 (0:Int))).w),(2,0,qaq qau)]
theorem qql (c1:Fn 12 2 [brS 0 1 (Br.mk (List.replicate 65 (0:Int)) (List.replicate 64 (0:Int)))] qmT (.pv (.tuple #[iV 0,iV 8])) 0 []) (c2:Fn 13 2 [brS 0 1 (Br.mk (List.replicate 65 (0:Int)) (List.replicate 64 (0:Int))),.pv (iV (-1))] qmT (.pv (.tuple #[.slice none 0 0,iV 8])) 0 []) (c3:Fn 14 3 [brS 0 1 (Br.mk (List.replicate 65 (0:Int)) (List.replicate 64 (0:Int))),qaF 2 qau,.pv (qac 0 0),.pv (iV (-1)),.pv (iV (9))] qoy (.pv (.tuple #[.agg #[.slice none 0 0,.slice none 0 0],.slice none 0 0,iV 8])) 0 []) (c4:Fn 15 3 [brS 0 1 (Br.mk (List.replicate 65 (0:Int)) (List.replicate 64 (0:Int))),qaF 2 qau,.pv (qac 0 0)] qoy (.pv (.tuple #[.bool false,iV 8])) 0 []) (c5:Fn 16 2 [brS 0 1 (Br.mk (List.replicate 65 (0:Int)) (List.replicate 64 (0:Int)))] qmT (.pv (iV (8))) 0 []) {e:Exit} {tm2:TmL} {hp2:HpL}
 (r:Rl 0 0 3 0 451 43 (qpv) (qe7) e tm2 hp2):Rl 0 0 3 0 451 43 (qoL) (qe7) e tm2 hp2:=
 RunsL.next [] 400 [.k,Cf c1 [40,41],Cf c2 [40,41],Cf c3 [40,41,0],Cf c4 [40,41,0],Cf c5 [40,41],.k,.k,.k,.k,.k,.k]
  (Ro (Co c1 [40,41] 43 (Co c2 [40,41] 43 (Co c3 [40,41,0] 43 (Co c4 [40,41,0] 44 (Co c5 [40,41] 44 tI)))))) r
abbrev qo6:TmL:=[(1,.pp 1 0),(3,.pv (iV 4)),(5,.pv (iV 8)),(7,.pv (iV 2)),(9,.pv (iV 2)),(11,.pv (iV 6)),(13,.pv (iV 14)),(15,.pv (iV 6)),(19,.pv (iV 42)),(22,.pv (iV 5)),(23,.pv (iV 0)),(24,.ls 29 0),(25,.pv (iV 0))]
theorem qk2:Rl 0 0 3 0 451 43 (qpv) (qe7) (.exit 0) (qo6) ([(1,0,.ls 0 65),(0,0,qaq qau),(29,0,zrI [])]):=
 RunsL.stop [] 300 [.k] (fun h=>by cases h)
  (Ro tI)
abbrev qlR:HpL:=[(0,0,zrI (Br.mk ([1,5]:List Int) ([5]:List Int)).p),(1,0,zrI (Br.mk ([1,5]:List Int) ([5]:List Int)).w),(2,0,qaq qaj)]
abbrev qpa:HpL:=[(0,0,zrI (Br.mk ([1,5]:List Int) ([5]:List Int)).p),(1,0,zrI (Br.mk ([1,5]:List Int) ([5]:List Int)).w)]
abbrev qom:HpL:=[(0,0,zrI (Br.mk ([5]:List Int) ([]:List Int)).p),(1,0,zrI (Br.mk ([5]:List Int) ([]:List Int)).w)]
theorem qkK (a1:Fn 9 1 [qaF 0 qau,.pv (qac 0 0),.pv (.slice none 0 0)] [(0,0,qaq qau)] (.pv (.tuple #[.agg #[.slice none 0 0,.slice none 0 0],iV 4])) 0 []) (hg:Fn 10 0 [] [] (.ag [.ls 0 3]) 1 [(0,0,qaq qaj)]) (a2:Fn 9 1 [qaF 0 qaj,.pv (qac 0 0),.pv (.slice none 0 0)] [(0,0,qaq qaj)] (.pv (.tuple #[.agg #[.slice none 0 0,.slice none 0 0],iV 8])) 0 []) (hat0:Pure Try.prog 11 #[iV (0)] (qac 0 1)) (a3:Fn 9 1 [qaF 0 qaj,.pv (qac 0 1),.pv (.slice none 0 0)] [(0,0,qaq qaj)] (.pv (.tuple #[.agg #[.slice none 0 0,.slice none 0 0],iV 2])) 0 []) (a4:Fn 9 2 [qaF 0 qaj,.pv (qac 0 1),.ls 1 (List.replicate 65 (0:Int)).length] [(0,0,qaq qaj),(1,0,zrI (List.replicate 65 (0:Int)))] (.pv (.tuple #[.agg #[.slice none 0 0,.slice none 0 0],iV 2])) 0 []) (a5:Fn 9 2 [qaF 0 qaj,.pv (qac 0 1),.ls 1 ([1,1,3]:List Int).length] [(0,0,qaq qaj),(1,0,zrI ([1,1,3]:List Int))] (.pv (.tuple #[.agg #[.slice none 0 0,.slice none 0 0],iV 6])) 0 []) (a6:Fn 9 2 [qaF 0 qaj,.pv (qac 0 1),.ls 1 ([1,1,-1]:List Int).length] [(0,0,qaq qaj),(1,0,zrI ([1,1,-1]:List Int))] (.pv (.tuple #[.agg #[.slice none 0 0,.slice none 0 0],iV 14])) 0 []) (a7:Fn 9 2 [qaF 0 qaj,.pv (qac 0 1),.ls 1 ([-2]:List Int).length] [(0,0,qaq qaj),(1,0,zrI ([-2]:List Int))] (.pv (.tuple #[.agg #[.slice none 0 0,.slice none 0 0],iV 6])) 0 []) (a8:Fn 9 2 [qaF 0 qaj,.pv (qac 0 1),.ls 1 ([-1,-1,-1]:List Int).length] [(0,0,qaq qaj),(1,0,zrI ([-1,-1,-1]:List Int))] (.tu [qkD 2 3 (Br.mk ([-1,-1,-1]:List Int) ([-1,-1]:List Int)),.one (.pv (iV 0))]) 2 [(2,0,zrI (Br.mk ([-1,-1,-1]:List Int) ([-1,-1]:List Int)).p),(3,0,zrI (Br.mk ([-1,-1,-1]:List Int) ([-1,-1]:List Int)).w)]) (a9:Fn 12 2 [brS 0 1 (Br.mk ([-1,-1,-1]:List Int) ([-1,-1]:List Int))] [(0,0,zrI (Br.mk ([-1,-1,-1]:List Int) ([-1,-1]:List Int)).p),(1,0,zrI (Br.mk ([-1,-1,-1]:List Int) ([-1,-1]:List Int)).w)] (.pv (.tuple #[iV 0,iV 42])) 0 []) (b1:Fn 9 2 [qaF 0 qaj,.pv (qac 0 1),.ls 1 ([5]:List Int).length] [(0,0,qaq qaj),(1,0,zrI ([5]:List Int))] (.tu [qkD 2 3 (Br.mk ([5]:List Int) ([]:List Int)),.one (.pv (iV 0))]) 2 [(2,0,zrI (Br.mk ([5]:List Int) ([]:List Int)).p),(3,0,zrI (Br.mk ([5]:List Int) ([]:List Int)).w)]) (b2:Fn 12 2 [brS 0 1 (Br.mk ([5]:List Int) ([]:List Int))] qom (.pv (.tuple #[iV 5,iV 0])) 0 []) (b3:Fn 13 2 [brS 0 1 (Br.mk ([5]:List Int) ([]:List Int)),.pv (iV (0))] qom (.tu [.one (.ls 2 ([]:List Int).length),.one (.pv (iV 0))]) 1 [(2,0,zrI ([]:List Int))]) (r0:Rl 0 0 3 0 451 43 (qrg) (qe7) (.exit 0) (qo6) ([(1,0,.ls 0 65),(0,0,qaq qau),(29,0,zrI [])])) (d1:Fn 13 2 [brS 0 1 (Br.mk ([1,5]:List Int) ([5]:List Int)),.pv (iV (2))] qpa (.pv (.tuple #[.slice none 0 0,iV 2])) 0 []) (d2:Fn 14 3 [brS 0 1 (Br.mk ([1,5]:List Int) ([5]:List Int)),qaF 2 qau,.pv (qac 0 0),.pv (iV (-1)),.pv (iV (9))] [(0,0,zrI (Br.mk ([1,5]:List Int) ([5]:List Int)).p),(1,0,zrI (Br.mk ([1,5]:List Int) ([5]:List Int)).w),(2,0,qaq qau)] (.pv (.tuple #[.agg #[.slice none 0 0,.slice none 0 0],.slice none 0 0,iV 4])) 0 []) (d3:Fn 14 3 [brS 0 1 (Br.mk ([1,5]:List Int) ([5]:List Int)),qaF 2 qaj,.pv (qac 0 0),.pv (iV (-1)),.pv (iV (9))] qlR (.pv (.tuple #[.agg #[.slice none 0 0,.slice none 0 0],.slice none 0 0,iV 8])) 0 []) (d4:Fn 14 3 [brS 0 1 (Br.mk ([1,5]:List Int) ([5]:List Int)),qaF 2 qaj,.pv (qac 0 1),.pv (iV (2)),.pv (iV (9))] qlR (.pv (.tuple #[.agg #[.slice none 0 0,.slice none 0 0],.slice none 0 0,iV 2])) 0 []) (d5:Fn 14 3 [brS 0 1 (Br.mk ([1,5]:List Int) ([5]:List Int)),qaF 2 qaj,.pv (qac 0 1),.pv (iV (0)),.pv (iV (9))] qlR (.pv (.tuple #[.agg #[.slice none 0 0,.slice none 0 0],.slice none 0 0,iV 6])) 0 []) (d6:Fn 14 3 [brS 0 1 (Br.mk ([1,5]:List Int) ([5]:List Int)),qaF 2 qaj,.pv (qac 0 1),.pv (iV (0)),.pv (iV (5))] qlR (.pv (.tuple #[.agg #[.slice none 0 0,.slice none 0 0],.slice none 0 0,iV 14])) 0 []) (hatm:Pure Try.prog 11 #[iV (-1)] (qac (-1) 1)) (d7:Fn 14 3 [brS 0 1 (Br.mk ([1,5]:List Int) ([5]:List Int)),qaF 2 qaj,.pv (qac (-1) 1),.pv (iV (1)),.pv (iV (5))] qlR (.tu [qkD 3 4 (Br.mk ([1,5]:List Int) ([5]:List Int)),.one (.ls 5 ([]:List Int).length),.one (.pv (iV 0))]) 3 [(3,0,zrI (Br.mk ([1,5]:List Int) ([5]:List Int)).p),(4,0,zrI (Br.mk ([1,5]:List Int) ([5]:List Int)).w),(5,0,zrI ([]:List Int))]) (d8:Fn 14 3 [brS 0 1 (Br.mk ([1,5]:List Int) ([5]:List Int)),.ag [.lq 2 3 1 2],.pv (qac 0 1),.pv (iV (1)),.pv (iV (2))] qlR (.pv (.tuple #[.agg #[.slice none 0 0,.slice none 0 0],.slice none 0 0,iV 6])) 0 []) (d9:Fn 15 3 [brS 0 1 (Br.mk ([1,5]:List Int) ([5]:List Int)),qaF 2 qaj,.pv (qac 0 1)] qlR (.pv (.tuple #[.bool false,iV 0])) 0 []) (f1:Fn 15 3 [brS 0 1 (Br.mk ([1,5]:List Int) ([5]:List Int)),qaF 2 qaj,.pv (qac (-1) 1)] qlR (.pv (.tuple #[.bool true,iV 0])) 0 []) (f2:Fn 15 2 [brS 0 1 (Br.mk ([1,5]:List Int) ([5]:List Int)),.pv (.agg #[.slice none 0 0]),.pv (qac 0 1)] qpa (.pv (.tuple #[.bool false,iV 6])) 0 []) (hs:Fn 17 4 [brS 0 1 (Br.mk ([1,5]:List Int) ([5]:List Int)),brS 2 3 (Br.mk ([1,5]:List Int) ([5]:List Int))] [(0,0,zrI (Br.mk ([1,5]:List Int) ([5]:List Int)).p),(1,0,zrI (Br.mk ([1,5]:List Int) ([5]:List Int)).w),(2,0,zrI (Br.mk ([1,5]:List Int) ([5]:List Int)).p),(3,0,zrI (Br.mk ([1,5]:List Int) ([5]:List Int)).w)] (.pv (.bool true)) 0 []) (hal:Pure Try.prog 18 #[] (.bool true)) :
 Fn 3 0 [] [] (.pv (.bool true)) 0 []:=
 qgA 1500 [] [Cf a1 [0],Cf hg [],Cf a2 [3],Cf hg [],Rf hat0,Cf a3 [5],.md,Cf hg [],Rf hat0,Cf a4 [7,8],Cf hg [],Rf hat0,.lw,Cf a5 [10,11],Cf hg [],Rf hat0,.lw,Cf a6 [13,14],Cf hg [],Rf hat0,.lw,Cf a7 [16,17],Cf hg [],Rf hat0,.lw,Cf a8 [19,20],Cf a9 [21,22],Cf hg [],Rf hat0,.lw,Cf b1 [24,25],Cf b2 [26,27],Cf b3 [26,27],.k,.k,.k,.k,.md,.lw,.lw,.lw,.lw,.lw,.lw,.lw,.lw,.lw,.lw,Lf r0,.lw,.lw,Cf d1 [43,44],Cf d2 [43,44,0],.md,Cf hg [],Cf d3 [43,44,47],.md,Cf hg [],Rf hat0,Cf d4 [43,44,49],.md,Cf hg [],Rf hat0,Cf d5 [43,44,51],.md,Cf hg [],Rf hat0,Cf d6 [43,44,53],.md,Cf hg [],Rf hatm,Cf d7 [43,44,55],.md,Cf hg [],.k,Rf hat0,Cf d8 [43,44,60],.md,Cf hg [],Rf hat0,Cf d9 [43,44,62],.md,Cf hg [],Rf hatm,Cf f1 [43,44,63],Rf hat0,Cf f2 [43,44],.k,.k,.k,.k,.k,.k,.k,.k,.k,.k,.k,.k,.k,.k,.k,.k,.k,.k,.k,.k,.k,Cf hs [56,57,43,44],.k,.k,.k,.k,Rf hal]
  tI (Ai (show (0:Int)≤65 from by decide) (Ai (Eq.refl (65:Int)) (Ai (show (65:Int)≤1000000 from by decide) (Co a1 [0] 2 (Co hg [] 3 (Co a2 [3] 4 (Co hg [] 5 (Ai hat0 (Co a3 [5] 6 (Co hg [] 7 (Ai hat0 (Ai (show (0:Int)≤65 from by decide) (Ai (Eq.refl (65:Int)) (Ai (show (65:Int)≤1000000 from by decide) (Co a4 [7,8] 9 (Co hg [] 10 (Ai hat0 (Co a5 [10,11] 12 (Co hg [] 13 (Ai hat0 (Co a6 [13,14] 15 (Co hg [] 16 (Ai hat0 (Co a7 [16,17] 18 (Co hg [] 19 (Ai hat0 (Co a8 [19,20] 21 (Co a9 [21,22] 24 (Co hg [] 24 (Ai hat0 (Co b1 [24,25] 26 (Co b2 [26,27] 29 (Co b3 [26,27] 29 (Ai (show (0:Int)≤65 from by decide) (Ai (Eq.refl (65:Int)) (Ai (show (65:Int)≤1000000 from by decide) (Ai (show (0:Int)≤64 from by decide) (Ai (Eq.refl (64:Int)) (Ai (show (64:Int)≤1000000 from by decide) (Lo r0 [] (Co d1 [43,44] 46 (Co d2 [43,44,0] 46 (Co hg [] 47 (Co d3 [43,44,47] 48 (Co hg [] 49 (Ai hat0 (Co d4 [43,44,49] 50 (Co hg [] 51 (Ai hat0 (Co d5 [43,44,51] 52 (Co hg [] 53 (Ai hat0 (Co d6 [43,44,53] 54 (Co hg [] 55 (Ai hatm (Co d7 [43,44,55] 56 (Co hg [] 60 (Ai (show (0:Int)≤1 from by decide) (Ai tI (Ai (show 1≤3 from by decide) (Ai (Nat.le_refl 3) (Ai hat0 (Co d8 [43,44,60] 61 (Co hg [] 62 (Ai hat0 (Co d9 [43,44,62] 63 (Co hg [] 63 (Ai hatm (Co f1 [43,44,63] 64 (Ai hat0 (Co f2 [43,44] 64 (Co hs [56,57,43,44] 64 (Ai hal tI))))))))))))))))))))))))))))))))))))))))))))))))))))))))))))))))))))))))) (by kernel_rfl)
end Go.Proofs.Ytgbmdijodlfcaaa

namespace Go.Proofs.Ytgbmdijodlfcaaa
set_option maxRecDepth 100000
open Go.RowKit
theorem qlJ {f:FuncId} {v:Value} (h:Fn f 0 [] [] (.pv v) 0 []):Pure Try.prog f #[] v:=by
 intro w
 refine (h w Bl.no [] (qef w) (fun _ _=>⟨rfl,rfl⟩) tI).mono fun e w' ⟨u,β',he,_,hx,hh,_⟩=>?_
 cases hx
 exact⟨he,hh.gr⟩
theorem qfN {n:Int} (h1 : -1000≤n) (h2:n≤1000):I64 n:=⟨by omega,by omega⟩
theorem qbX:Val qaj:=⟨by show 3≤64;omega,fun p hp=>by
 simp only[List.mem_cons,List.not_mem_nil,or_false] at hp
 rcases hp with rfl | rfl | rfl<;>decide,fun k p q hp hq=>by
 match k,hp,hq with
 | 0,hp,hq=>cases hp;cases hq;decide
 | 1,hp,hq=>cases hp;cases hq;decide
 | 2,_,hq=>simp at hq
 | k+3,hp,_=>simp at hp⟩
theorem qhp {p:List Int} (h:∀ x∈p,x = -1∨x=1∨x=2∨x=5):KnB qaj p:=fun x hx h1=>by
 rcases h x hx with rfl | rfl | rfl | rfl
 ·exact (h1 rfl).elim
 ·exact⟨⟨1,0,2⟩,by simp,rfl⟩
 ·exact⟨⟨2,6,-1⟩,by simp,rfl⟩
 ·exact⟨⟨5,0,0⟩,by simp,rfl⟩
theorem qey {p:List Int} (h:∀ i,i<p.length→∀ k,k<p.length→p.getD i 0=p.getD k 0→0≤p.getD i 0→i=k):OneB p:=fun i k x hi hk h0=>by
 have e1:p.getD i 0=x:=by rw[List.getD_eq_getElem?_getD,hi];rfl
 have e2:p.getD k 0=x:=by rw[List.getD_eq_getElem?_getD,hk];rfl
 exact h i (qaC hi) k (qaC hk) (e1.trans e2.symm) (by rw[e1];exact h0)
section
variable {s:List Pt} {tn td:Int}
theorem qpg {p:List Int} (hk:KnB s p) (h1:OneB p):idE s p=0:=by unfold idE;rw[if_pos hk,if_pos h1]
theorem qjV {p:List Int} (ht:tE s tn td=0) (n:1≤p.length∧p.length≤64) (hk:KnB s p) (h1:OneB p):buE s tn td p=0∧buR s tn td p=bld s tn td p:=by
 have e:buE s tn td p=0:=by unfold buE;rw[if_pos ht,if_pos n,if_pos hk,if_pos h1]
 exact⟨e,by unfold buR;rw[if_pos e]⟩
theorem qlE {b:Br} {z x:Int} (V:VB b) (ht:tE s tn td=0) (hz:0≤z∧z<b.p.length) (hk:KnB s (b.p.set z.toNat x)) (h1:OneB (b.p.set z.toNat x)):seE b s tn td z x=0∧seR s tn td b z x=rpF s tn td (wy (b.w.length+z.toNat)) (⟨b.p.set z.toNat x,b.w⟩,[]):=by
 have e:seE b s tn td z x=0:=(qee V ht hz).trans (qpg hk h1)
 exact⟨e,by unfold seR;rw[if_pos e]⟩
end
theorem qmC (n:Int) (h:okB n 1=true):tE qaj n 1=0:=qkl qbX h
abbrev br4:Br:=⟨[1,2,-1,5],[2,2,5]⟩
theorem qlS:bld qaj 0 1 [1,2,-1,5]=br4:=by
 have:=qkq
 show (⟨[1,2,-1,5],_⟩:Br)=_
 rw[show br4=⟨[1,2,-1,5],(bld qaj 0 1 [1,2,-1,5]).w⟩ by rw[this]]
 rfl
theorem qhr:VB br4:=by
 rw[← qlS]
 exact qi0 qbX (by decide) (by decide) (qhp (by decide)) (qey (by decide))
theorem qjN:Fn 10 0 [] [] (.ag [.ls 0 3]) 1 [(0,0,qaq qaj)]:=qqO
set_option maxRecDepth 10000 in
theorem qm4:Pure Try.prog 18 #[] (.bool true):=by
 have z0:I64 0:=qfN (by omega) (by omega)
 have z1:I64 1:=qfN (by omega) (by omega)
 have ht:=qmC 0 (by decide)
 have hb:=qjY (s:=qaj) z0 z1 [1,2,-1,5] (by decide)
 obtain⟨e1,e2⟩:=qjV (p:=[1,2,-1,5]) ht (by decide) (qhp (by decide)) (qey (by decide))
 unfold qb0 at hb
 rw[e1,e2,qlS] at hb
 have hw:=qet (b:=br4) (by decide) (by decide)
 unfold qff at hw
 rw[(qhN qhr (by decide)).1,(qhN qhr (by decide)).2] at hw
 have hs:=qq6 (s:=qaj) (b:=br4) (z:=1) (x:=-1) z0 z1 (by decide) (by decide)
 obtain⟨e3,e4⟩:=qlE (s:=qaj) (tn:=0) (td:=1) (b:=br4) (z:=1) (x:=-1) qhr ht (by decide) (qhp (by decide)) (qey (by decide))
 have e5:seR qaj 0 1 br4 1 (-1)=(⟨[1,-1,-1,5],[1,1,5]⟩,[1,0]):=by
  rw[e4]
  generalize hq:rpF qaj 0 1 (wy (br4.w.length+(1:Int).toNat)) (⟨br4.p.set (1:Int).toNat (-1),br4.w⟩,[])=q
  have h1:q.1.w=[1,1,5]:=by rw[← hq];decide
  have h2:q.2=[1,0]:=by rw[← hq];decide
  have h3:q.1.p=[1,-1,-1,5]:=by rw[← hq];decide
  obtain⟨⟨p,w⟩,m⟩:=q
  simp only at h1 h2 h3
  rw[h1,h2,h3]
 unfold qfS at hs
 rw[e3,e5] at hs
 have hp:=qo7 (b:=br4) (by decide) (by decide) 3
 obtain⟨e6,e7⟩:=qhu (b:=br4) (z:=3) qhr (by decide)
 unfold qd7 at hp
 rw[e6,e7,show wyV (br4.w.length+(3:Int).toNat)=[2,0] by decide] at hp
 exact qlJ (qqg (hg:=qjN) (hat0:=qny) (hb:=hb) (hw:=hw) (hs:=hs) (hp:=hp) (h1:=qhz (by decide)) (h2:=qhz (by decide)) (h3:=qhz (by decide)) (h4:=qhz (by decide)))
section
variable {s:List Pt} {tn td:Int} (htn:I64 tn) (htd:I64 td)
end
end Go.Proofs.Ytgbmdijodlfcaaa

namespace Go.Proofs.Ytgbmdijodlfcaaa
set_option maxRecDepth 100000
open Go.RowKit
theorem qc6 {β:Bl} {s:S0} {r:List S0} {us:List Value} (h:S0.isl β (s::r) us):∃ u t,us=u::t∧s.is β u∧S0.isl β r t:=by
 match us,h with
 | u::t,⟨h1,h2⟩=>exact⟨u,t,rfl,h1,h2⟩
theorem qfF {β:Bl} {us:List Value} (h:S0.isl β [] us):us=[]:=by
 match us,h with
 | [],_=>rfl
theorem qbE {k:Nat} {β:Bl} {pre:List (Nat×Nat×SV)} {w:World} {b es n m:Nat} {e:TypeId} {xs:List Value} {v:Value} (H:HRel w k β pre w) (h:qab pre b 0=some (.row e es n xs)) (hi:(S0.ls b m).is β v):Rd w es v n xs:=by
 obtain⟨y,ey,R⟩:=H.rows b 0 e es n xs h
 rw[hi.1] at ey
 cases ey
 exact R.rd
theorem qaX {f:FuncId} {k:Nat} {pre:List (Nat×Nat×SV)} {w:World} {β:Bl} {us:List Value} {v:Value} (H:HRel w k β pre w) (hd:β.dom k) (h:Calls Try.prog f us.toArray w fun e w'=>e=.returned v∧Gr w w') :
 Calls Try.prog f us.toArray w fun e w'=>∃ (v':Value) (β':Bl),e=.returned v'∧β.le β'∧(SV.pv v).is β' v'∧HRel w (k+0) β' [] w'∧β'.dom (k+0):=
 h.mono fun _ _ ⟨he,hg⟩=>⟨_,β,he,Bl.le_refl _,rfl,(H.gr_mono hg).imp (fun _ _ _ h=>(by cases h)),hd⟩
theorem qdz {W:World} {f:FuncId} {us:List Value} {rs:List (TypeId×Nat×Nat×List Value)} {args:List SV} {vs:List Value} {v:Value} (h:Fn f rs.length args (qfP 0 rs) (.pv v) 0 []) (hr:ZIns W us rs) (ha:SV.isl (qkh us) args vs) :
 Calls Try.prog f vs.toArray W fun e W'=>e=.returned v∧Gr W W':=by
 refine (h W (qkh us) vs (qkB hr) (qlb hr) ha).mono fun e W' ⟨v,β',he,_,hx,hh,_⟩=>?_
 cases hx
 exact⟨he,hh.gr⟩
theorem qjn {w:World} {es n n' k nn c c':Nat} {a a':Option Addr} {xs:List Value} (R:Rd w es (.slice a nn c) n xs) (hk:k+n'≤nn) (hc:n'≤c') (h0:0<n') (hp:0<n'→∃ r o,a=some ⟨r,o,none⟩∧a'=some ⟨r,o+k*es,none⟩) :
 Rd w es (.slice a' n' c') n' ((xs.drop (k*es)).take (n'*es)):=by
 obtain⟨r,o,ea,ea'⟩:=hp h0
 subst ea ea'
 obtain⟨hl,a2,c2,he,hnc,hrd⟩:=R
 have e1:=he
 simp only[Value.slice.injEq] at e1
 obtain⟨rfl,rfl,rfl⟩:=e1
 have hm:(k+n')*es≤nn*es:=Nat.mul_le_mul_right es hk
 rw[Nat.add_mul] at hm
 refine⟨by rw[List.length_take,List.length_drop];omega,_,_,rfl,hc,fun j v hj=>⟨r,o+k*es,rfl,?_⟩⟩
 have hj':xs[k*es+j]?=some v:=by
  rw[List.getElem?_take] at hj
  split at hj
  ·rw[List.getElem?_drop] at hj;exact hj
  ·cases hj
 obtain⟨r',o',er,hcell⟩:=hrd _ v hj'
 cases er
 rw[show o+k*es+j=o+(k*es+j) by omega]
 exact hcell
theorem qfC (W:World):Rd W 1 (.slice none 0 0) ([]:List Int).length (ziV []):=⟨rfl,none,0,rfl,Nat.le_refl _,fun j v hj=>by simp[ziV] at hj⟩
theorem qoX (W:World):Rd W 3 (.slice none 0 0) ([]:List Pt).length (qgz []):=⟨rfl,none,0,rfl,Nat.le_refl _,fun j v hj=>by simp[qgz] at hj⟩
section
variable {f:FuncId} {s:List Pt} {p:List Int} {b:Br} {v t:Value} {vs:List Value}
theorem qlp {W:World} {u0 u1:Value} (h:Fn f 2 (brS 0 1 b::vs.map .pv) [(0,0,zrI b.p),(1,0,zrI b.w)] (.pv v) 0 []) (r0:Rd W 1 u0 b.p.length (ziV b.p)) (r1:Rd W 1 u1 b.w.length (ziV b.w)) :
 Calls Try.prog f (.agg #[u0,u1]::vs).toArray W fun e W'=>e=.returned v∧Gr W W':=
 qdz (rs:=[(3,1,b.p.length,ziV b.p),(3,1,b.w.length,ziV b.w)]) (us:=[u0,u1]) h (.cons r0 (qcE b.p) (.cons r1 (qcE b.w) .nil)) ⟨⟨[u0,u1],⟨⟨rfl,r0.zsl⟩,⟨rfl,r1.zsl⟩,tI⟩,rfl⟩,SV.isl_v vs⟩
theorem qeW {W:World} {u0 u1 u:Value} (h:Fn f 3 (brS 0 1 b::qaF 2 s::vs.map .pv) [(0,0,zrI b.p),(1,0,zrI b.w),(2,0,qaq s)] (.pv v) 0 []) (r0:Rd W 1 u0 b.p.length (ziV b.p)) (r1:Rd W 1 u1 b.w.length (ziV b.w)) (rf:Rd W 3 u s.length (qgz s)) :
 Calls Try.prog f (.agg #[u0,u1]::.agg #[u]::vs).toArray W fun e W'=>e=.returned v∧Gr W W':=
 qdz (rs:=[(3,1,b.p.length,ziV b.p),(3,1,b.w.length,ziV b.w),(68,3,s.length,qgz s)]) (us:=[u0,u1,u]) h (.cons r0 (qcE b.p) (.cons r1 (qcE b.w) (.cons rf (qgv s) .nil)))
  ⟨⟨[u0,u1],⟨⟨rfl,r0.zsl⟩,⟨rfl,r1.zsl⟩,tI⟩,rfl⟩,⟨[u],⟨⟨rfl,rf.zsl⟩,tI⟩,rfl⟩,SV.isl_v vs⟩
theorem qjk (h:Fn f 2 [qaF 0 s,.pv t,.ls 1 ([]:List Int).length] [(0,0,qaq s),(1,0,zrI [])] (.pv v) 0 []):Fn f 1 [qaF 0 s,.pv t,.pv (.slice none 0 0)] [(0,0,qaq s)] (.pv v) 0 []:=by
 intro w β us H hd hi
 match us,hi with
 | [a,c,d],⟨⟨ws,hws,ha⟩,hc,hd',_⟩=>
 obtain⟨u,r,ew,hu,k1⟩:=qc6 hws
 have er:=qfF k1
 have hc':c=t:=hc
 have hd2:d=.slice none 0 0:=hd'
 subst er ew ha hc' hd2
 have rf:=qbE H rfl hu
 exact qaX (us:=[_,_,_]) H hd (qdz (rs:=[(68,3,s.length,qgz s),(3,1,([]:List Int).length,ziV [])]) (us:=[u,.slice none 0 0]) h (.cons rf (qgv s) (.cons (qfC w) (qcE []) .nil)) ⟨⟨[u],⟨⟨rfl,rf.zsl⟩,tI⟩,rfl⟩,rfl,⟨rfl,(qfC w).zsl⟩,tI⟩)
theorem qdW (h:Fn f 2 (brS 0 1 ⟨p,[]⟩::vs.map .pv) [(0,0,zrI p),(1,0,zrI [])] (.pv v) 0 []):Fn f 1 (.ag [.ls 0 p.length,.pv (.slice none 0 0)]::vs.map .pv) [(0,0,zrI p)] (.pv v) 0 []:=by
 intro w β us H hd hi
 match us,hi with
 | a::q,⟨⟨ws,hws,ha⟩,hr⟩=>
 have e:=SV.isl_v_eq hr
 obtain⟨u,r,ew,hu,k1⟩:=qc6 hws
 obtain⟨u2,r2,ew2,hu2,k2⟩:=qc6 k1
 have er:=qfF k2
 have hu3:u2=.slice none 0 0:=hu2
 subst e er hu3 ew2 ew ha
 exact qaX H hd (qlp h (qbE H rfl hu) (qfC w))
theorem qeR (h:Fn f 3 (brS 0 1 ⟨p,[]⟩::qaF 2 s::vs.map .pv) [(0,0,zrI p),(1,0,zrI []),(2,0,qaq s)] (.pv v) 0 []):Fn f 2 (.ag [.ls 0 p.length,.pv (.slice none 0 0)]::qaF 1 s::vs.map .pv) [(0,0,zrI p),(1,0,qaq s)] (.pv v) 0 []:=by
 intro w β us H hd hi
 match us,hi with
 | a::c::q,⟨⟨ws,hws,ha⟩,⟨wt,ht,hb⟩,hr⟩=>
 have e:=SV.isl_v_eq hr
 obtain⟨u,r,ew,hu,k1⟩:=qc6 hws
 obtain⟨u2,r2,ew2,hu2,k2⟩:=qc6 k1
 have er:=qfF k2
 have hu3:u2=.slice none 0 0:=hu2
 obtain⟨y,r3,ew3,hy,k3⟩:=qc6 ht
 have er3:=qfF k3
 subst e er hu3 ew2 ew ha er3 ew3 hb
 exact qaX (us:=_::_::_) H hd (qeW h (qbE H rfl hu) (qfC w) (qbE H rfl hy))
theorem qiJ (h:Fn f 2 (brS 0 1 ⟨[],[]⟩::vs.map .pv) [(0,0,zrI []),(1,0,zrI [])] (.pv v) 0 []):Pure Try.prog f (.agg #[.slice none 0 0,.slice none 0 0]::vs).toArray v:=fun w=>qlp h (qfC w) (qfC w)
theorem qim (h:Fn f 3 (brS 0 1 ⟨[],[]⟩::qaF 2 s::vs.map .pv) [(0,0,zrI []),(1,0,zrI []),(2,0,qaq s)] (.pv v) 0 []):Fn f 1 (.pv (.agg #[.slice none 0 0,.slice none 0 0])::qaF 0 s::vs.map .pv) [(0,0,qaq s)] (.pv v) 0 []:=by
 intro w β us H hd hi
 match us,hi with
 | a::c::q,⟨ha,⟨wt,ht,hb⟩,hr⟩=>
 have e:=SV.isl_v_eq hr
 have ha':a=.agg #[.slice none 0 0,.slice none 0 0]:=ha
 obtain⟨y,r3,ew3,hy,k3⟩:=qc6 ht
 have er3:=qfF k3
 subst e ha' er3 ew3 hb
 exact qaX (us:=_::_::_) H hd (qeW h (qfC w) (qfC w) (qbE H rfl hy))
theorem qqp (h:Fn f 3 (brS 0 1 b::qaF 2 []::vs.map .pv) [(0,0,zrI b.p),(1,0,zrI b.w),(2,0,qaq [])] (.pv v) 0 []):Fn f 2 (brS 0 1 b::.pv (.agg #[.slice none 0 0])::vs.map .pv) [(0,0,zrI b.p),(1,0,zrI b.w)] (.pv v) 0 []:=by
 intro w β us H hd hi
 match us,hi with
 | a::c::q,⟨⟨ws,hws,ha⟩,hc,hr⟩=>
 have e:=SV.isl_v_eq hr
 have hc':c=.agg #[.slice none 0 0]:=hc
 obtain⟨u,r,ew,hu,k1⟩:=qc6 hws
 obtain⟨u2,r2,ew2,hu2,k2⟩:=qc6 k1
 have er:=qfF k2
 subst e hc' er ew2 ew ha
 exact qaX (us:=_::_::_) H hd (qeW h (qbE H rfl hu) (qbE H rfl hu2) (qoX w))
theorem qn6 (h:Fn f 3 (brS 0 1 b::qaF 2 [⟨2,6,-1⟩,⟨5,0,0⟩]::vs.map .pv) [(0,0,zrI b.p),(1,0,zrI b.w),(2,0,qaq [⟨2,6,-1⟩,⟨5,0,0⟩])] (.pv v) 0 []):Fn f 3 (brS 0 1 b::.ag [.lq 2 3 1 2]::vs.map .pv) [(0,0,zrI b.p),(1,0,zrI b.w),(2,0,qaq qaj)] (.pv v) 0 []:=by
 intro w β us H hd hi
 match us,hi with
 | a::c::q,⟨⟨ws,hws,ha⟩,⟨wt,ht,hb⟩,hr⟩=>
 have e:=SV.isl_v_eq hr
 obtain⟨u,r,ew,hu,k1⟩:=qc6 hws
 obtain⟨u2,r2,ew2,hu2,k2⟩:=qc6 k1
 have er:=qfF k2
 obtain⟨y,r3,ew3,⟨a',nn,cc,a'',c',hg,hle,hc',hy,hp⟩,k3⟩:=qc6 ht
 have er3:=qfF k3
 subst e er ew2 ew ha er3 ew3 hb hy
 obtain⟨y0,e0,R0⟩:=H.rows 2 0 _ _ _ _ rfl
 rw[hg] at e0
 cases e0
 exact qaX (us:=_::_::_) H hd (qeW h (qbE H rfl hu) (qbE H rfl hu2) (qjn R0.rd hle hc' (by decide) hp))
end
section
variable {s:List Pt} {tn td:Int} (htn:I64 tn) (htd:I64 td)
include htn htd in
theorem qbi {p:List Int} (hp:p.length≤70) (h:buE s tn td p≠0):Fn 9 2 [qaF 0 s,.pv (qac tn td),.ls 1 p.length] [(0,0,qaq s),(1,0,zrI p)] (.pv (.tuple #[.agg #[.slice none 0 0,.slice none 0 0],iV (buE s tn td p)])) 0 []:=by
 have c1:=qbw s
 have c2:=qdL htn htd
 have c3:=qf5 (l:=p)
 by_cases ht:tE s tn td=0
 ·obtain⟨hs,hok⟩:=qcq ht
  obtain⟨t1,t2⟩:=qdq ht
  rw[t1] at c1
  rw[t2] at c2
  by_cases hz:1≤p.length∧p.length≤64
  ·rw[if_pos hz] at c3
   have c4:=qdA hs (l:=p) rfl (by omega)
   have e:buE s tn td p=idE s p:=by unfold buE idE;rw[if_pos ht,if_pos hz]
   rw[e] at h ⊢
   exact qjq (h2:=c1) (h3:=c2) (h4:=c3) (hb:=qlA hs) (hi:=c4) (he4:=by simpa using h)
  ·rw[if_neg hz] at c3
   have e:buE s tn td p=2:=by unfold buE;rw[if_pos ht,if_neg hz]
   rw[e]
   exact qn1 (h2:=c1) (h3:=c2) (h4:=c3) (he:=by decide)
 ·have e:buE s tn td p=tE s tn td:=by unfold buE;rw[if_neg ht]
  rw[e]
  by_cases h1:qdR s=0
  ·rw[h1] at c1
   rw[qdk,if_pos h1] at ht ⊢
   exact qpc (h2:=c1) (h3:=c2) (h4:=c3) (he:=by simpa using ht)
  ·rw[qdk,if_neg h1]
   exact qog (h2:=c1) (h3:=c2) (h4:=c3) (he:=by simpa using h1)
variable {b:Br} {z x:Int}
theorem qgY (h1:b.p.length≤70) (h2:b.w.length≤70) (h:paE b z≠0):Fn 13 2 [brS 0 1 b,.pv (iV z)] [(0,0,zrI b.p),(1,0,zrI b.w)] (.pv (.tuple #[.slice none 0 0,iV (paE b z)])) 0 []:=by
 have c1:=qgl h1 h2
 have c2:=qeN (b:=b) z
 by_cases V:VB b
 ·rw[qdr V] at c1
  by_cases h0:0≤z∧z<b.p.length
  ·exact (h (qhu V h0).1).elim
  ·rw[if_neg h0] at c2
   rw[(qfK V h0).1]
   exact qoj (h1:=c1) (h4:=c2) (he:=by decide)
 ·rw[qbg V] at c1
  rw[(qfT V).1]
  exact qpd (h1:=c1) (h4:=c2) (he:=by decide)
include htn htd in
theorem qcj (h1:b.p.length≤70) (h2:b.w.length≤70) (h:seE b s tn td z x≠0):Fn 14 3 [brS 0 1 b,qaF 2 s,.pv (qac tn td),.pv (iV z),.pv (iV x)] [(0,0,zrI b.p),(1,0,zrI b.w),(2,0,qaq s)]
 (.pv (.tuple #[.agg #[.slice none 0 0,.slice none 0 0],.slice none 0 0,iV (seE b s tn td z x)])) 0 []:=by
 have c1:=qgl h1 h2
 have c2:=qbw s
 have c3:=qdL htn htd
 have c4:=qeN (b:=b) z
 by_cases V:VB b
 ·rw[qdr V] at c1
  by_cases ht:tE s tn td=0
  ·obtain⟨hs,hok⟩:=qcq ht
   obtain⟨t1,t2⟩:=qdq ht
   rw[t1] at c2
   rw[t2] at c3
   by_cases hz:0≤z∧z<b.p.length
   ·rw[if_pos hz] at c4
    have hset:(b.p.set z.toNat x).length=b.p.length:=List.length_set
    have c5:=qdA hs hset (by omega)
    have hzl:z.toNat<b.p.length:=by omega
    have k1:=qby (l:=b.p) (by omega)
    have k2:=qby (l:=b.w) (by omega)
    have e:=qee (x:=x) V ht hz
    rw[e] at h ⊢
    exact qjc (h1:=c1) (h2:=c2) (h3:=c3) (h4:=c4) (hc1:=k1) (hc2:=k2) (hix:=hz) (hg:=hzl) (hb:=qlA hs) (hi:=c5) (hee:=by simpa using h)
   ·rw[if_neg hz] at c4
    rw[qgN V ht hz]
    exact qoZ (h1:=c1) (h2:=c2) (h3:=c3) (h4:=c4) (he:=by decide)
  ·rw[qfI V ht]
   by_cases e1:qdR s=0
   ·rw[e1] at c2
    rw[qdk,if_pos e1] at ht ⊢
    exact qoJ (h1:=c1) (h2:=c2) (h3:=c3) (h4:=c4) (he:=by simpa using ht)
   ·rw[qdk,if_neg e1]
    exact qo8 (h1:=c1) (h2:=c2) (h3:=c3) (h4:=c4) (he:=by simpa using e1)
 ·rw[qbg V] at c1
  rw[qfE V]
  exact qoC (h1:=c1) (h2:=c2) (h3:=c3) (h4:=c4) (he:=by decide)
include htn htd in
theorem qfo (h1:b.p.length≤70) (h2:b.w.length≤70) (V:¬ VB b) (z z2 x:Int) :
 Fn 12 2 (brS 0 1 b::([]:List Value).map .pv) [(0,0,zrI b.p),(1,0,zrI b.w)] (.pv (.tuple #[iV 0,iV 8])) 0 []∧
 Fn 13 2 (brS 0 1 b::([iV z]:List Value).map .pv) [(0,0,zrI b.p),(1,0,zrI b.w)] (.pv (.tuple #[.slice none 0 0,iV 8])) 0 []∧
 Fn 14 3 (brS 0 1 b::qaF 2 s::([qac tn td,iV z2,iV x]:List Value).map .pv) [(0,0,zrI b.p),(1,0,zrI b.w),(2,0,qaq s)] (.pv (.tuple #[.agg #[.slice none 0 0,.slice none 0 0],.slice none 0 0,iV 8])) 0 []∧
 Fn 15 3 (brS 0 1 b::qaF 2 s::([qac tn td]:List Value).map .pv) [(0,0,zrI b.p),(1,0,zrI b.w),(2,0,qaq s)] (.pv (.tuple #[.bool false,iV 8])) 0 []∧
 Fn 16 2 (brS 0 1 b::([]:List Value).map .pv) [(0,0,zrI b.p),(1,0,zrI b.w)] (.pv (iV 8)) 0 []:=by
 have c1:=qet h1 h2
 unfold qff at c1
 rw[(qhd V).1,(qhd V).2] at c1
 have c2:=qgY (z:=z) h1 h2 (by rw[(qfT V).1];decide)
 rw[(qfT V).1] at c2
 have c3:=qcj htn htd (s:=s) (z:=z2) (x:=x) h1 h2 (by rw[qfE V];decide)
 rw[qfE V] at c3
 have c4:=qhg htn htd (s:=s) h1 h2
 unfold qbI at c4
 rw[(qgJ V).1,(qgJ V).2] at c4
 have c5:=qgl h1 h2
 unfold qnt at c5
 rw[qbg V] at c5
 exact⟨c1,c2,c3,c4,c5⟩
end
end Go.Proofs.Ytgbmdijodlfcaaa
