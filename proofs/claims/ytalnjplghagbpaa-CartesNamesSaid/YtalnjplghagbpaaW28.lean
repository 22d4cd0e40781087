/-
  Joined: Wb, Ui, Uj, Uk, Ul. Conditions: none.
-/
import Derived.Test.YtalnjplghagbpaaW27
import Derived.Test.YtalnjplghagbpaaW23
import Derived.Test.YtalnjplghagbpaaW19
namespace Go.Proofs.Ytalnjplghagbpaa
set_option maxRecDepth 100000
open Go.RowKit
abbrev qaQ:List Pt:=List.replicate 65 (Pt.mk 0 0 0)
def qaA (n:Nat) (d:Int):List Pt:=(List.range n).map fun k:Nat=>⟨d+(k:Int),-1,if k+1<n then ((k+1:Nat):Int) else -1⟩
abbrev qcy:HpL:=[(0,0,.pv (iV (-1))),(0,1,.ls 15 ([]:List Pt).length),(15,0,qaa ([]:List Pt)),(14,0,.pv (iV 0)),(14,1,.ls 2 (qaA 65 0).length),(14,2,.pv (iV 0)),(14,3,.ls 16 ([]:List Pt).length),(14,4,.pv (iV 1)),(14,5,.ls 3 ([Pt.mk (3) (-1) (-1)]:List Pt).length),(14,6,.pv (iV (-2))),(14,7,.ls 17 ([]:List Pt).length),(14,8,.pv (iV (-1))),(14,9,.ls 4 ([Pt.mk (3) (-1) (-1)]:List Pt).length),(14,10,.pv (iV 0)),(14,11,.ls 5 ([Pt.mk (3) (0) (-1)]:List Pt).length),(14,12,.pv (iV 0)),(14,13,.ls 6 ([Pt.mk (3) (-1) (1)]:List Pt).length),(14,14,.pv (iV 0)),(14,15,.ls 7 ([Pt.mk (3) (-1) (-1),Pt.mk (4) (-1) (-1)]:List Pt).length),(14,16,.pv (iV 0)),(14,17,.ls 8 ([Pt.mk (3) (1) (-1),Pt.mk (4) (-1) (-1)]:List Pt).length),(14,18,.pv (iV 0)),(14,19,.ls 9 ([Pt.mk (3) (-1) (1),Pt.mk (3) (-1) (-1)]:List Pt).length),(14,20,.pv (iV 0)),(14,21,.ls 10 ([Pt.mk (-1) (-1) (-1)]:List Pt).length),(14,22,.pv (iV 0)),(14,23,.ls 11 ([Pt.mk (65536) (-1) (-1)]:List Pt).length),(14,24,.pv (iV 0)),(14,25,.ls 12 ([Pt.mk (3) (-1) (-1),Pt.mk (5) (2) (-1),Pt.mk (4) (1) (-1)]:List Pt).length),(14,26,.pv (iV 0)),(14,27,.ls 13 ([Pt.mk (3) (-2) (-1)]:List Pt).length),(2,0,qaa (qaA 65 0)),(16,0,qaa ([]:List Pt)),(3,0,qaa ([Pt.mk (3) (-1) (-1)]:List Pt)),(17,0,qaa ([]:List Pt)),(4,0,qaa ([Pt.mk (3) (-1) (-1)]:List Pt)),(5,0,qaa ([Pt.mk (3) (0) (-1)]:List Pt)),(6,0,qaa ([Pt.mk (3) (-1) (1)]:List Pt)),(7,0,qaa ([Pt.mk (3) (-1) (-1),Pt.mk (4) (-1) (-1)]:List Pt)),(8,0,qaa ([Pt.mk (3) (1) (-1),Pt.mk (4) (-1) (-1)]:List Pt)),(9,0,qaa ([Pt.mk (3) (-1) (1),Pt.mk (3) (-1) (-1)]:List Pt)),(10,0,qaa ([Pt.mk (-1) (-1) (-1)]:List Pt)),(11,0,qaa ([Pt.mk (65536) (-1) (-1)]:List Pt)),(12,0,qaa ([Pt.mk (3) (-1) (-1),Pt.mk (5) (2) (-1),Pt.mk (4) (1) (-1)]:List Pt)),(13,0,qaa ([Pt.mk (3) (-2) (-1)]:List Pt))]
abbrev qgK:Prop:=Fn 15 0 [] [] (.ag [.ls 0 3]) 1 [(0,0,qag qap)]
theorem quH (c1:Fn 10 1 [.ag [.pv (iV 0),.ls 0 (qaA 65 0).length]] [(0,0,qaa (qaA 65 0))] (.pv (.tuple #[.slice none 0 0,iV 4])) 0 []) (c2:Fn 11 2 [.ag [.pv (iV 0),.ls 0 (qaA 65 0).length],qas 1 qaQ,.pv (qab 0 0)] [(0,0,qaa (qaA 65 0)),(1,0,qag qaQ)] (.pv (.tuple #[.bool false,iV 4])) 0 []) (c3:Fn 12 1 [.ag [.pv (iV 0),.ls 0 (qaA 65 0).length],.pv (iV (-1))] [(0,0,qaa (qaA 65 0))] (.pv (.tuple #[iV 0,iV 4])) 0 []) (c4:Fn 13 1 [.ag [.pv (iV 0),.ls 0 (qaA 65 0).length],.pv (iV (0))] [(0,0,qaa (qaA 65 0))] (.pv (.tuple #[.agg #[iV 0,.slice none 0 0],.agg #[iV 0,.slice none 0 0],iV 4])) 0 []) (hg:qgK) (c5:Fn 14 3 [.ag [.pv (iV (-1)),.ls 0 ([]:List Pt).length],.ag [.pv (iV 0),.ls 1 (qaA 65 0).length],qas 2 qap,.pv (qab 0 0)] [(0,0,qaa ([]:List Pt)),(1,0,qaa (qaA 65 0)),(2,0,qag qap)] (.pv (.tuple #[.agg #[iV 0,.slice none 0 0],iV 4])) 0 []) (c6:Fn 16 2 [.ag [.pv (iV 0),.ls 0 (qaA 65 0).length],.ag [.pv (iV (-1)),.ls 1 ([]:List Pt).length]] [(0,0,qaa (qaA 65 0)),(1,0,qaa ([]:List Pt))] (.pv (.tuple #[.bool false,iV 4])) 0 []) (c7:Fn 16 2 [.ag [.pv (iV (-1)),.ls 0 ([]:List Pt).length],.ag [.pv (iV 0),.ls 1 (qaA 65 0).length]] [(0,0,qaa ([]:List Pt)),(1,0,qaa (qaA 65 0))] (.pv (.tuple #[.bool false,iV 4])) 0 []) (c8:Fn 17 1 [.ag [.pv (iV 0),.ls 0 (qaA 65 0).length]] [(0,0,qaa (qaA 65 0))] (.pv (iV (4))) 0 []) {e:Exit} {tm2:TmL} {hp2:HpL}
 (r:Rl 0 0 3 0 460 18 ([(1,.pp 0 0),(3,.ps 14 0 14 14),(4,.pv (iV (1)))]) (qcy) e tm2 hp2):Rl 0 0 3 0 460 18 ([(1,.pp 0 0),(3,.ps 14 0 14 14),(4,.pv (iV (0)))]) (qcy) e tm2 hp2:=
 RunsL.next [] 400 [.k,.k,Cf c1 [2],.md,Cf c2 [2,18],Cf c3 [2],Cf c4 [2],.md,Cf hg [],Cf c5 [15,2,21],.md,Cf c6 [2,15],.md,Cf c7 [15,2],Cf c8 [2],.k,.k,.k,.k,.k,.k,.k,.k,.k]
  (Ro (Co c1 [2] 18 (Ai (show (0:Int)≤65 from by decide) (Ai (Eq.refl (65:Int)) (Ai (show (65:Int)≤1000000 from by decide) (Co c2 [2,18] 19 (Co c3 [2] 19 (Co c4 [2] 19 (Co hg [] 21 (Co c5 [15,2,21] 22 (Co c6 [2,15] 23 (Co c7 [15,2] 23 (Co c8 [2] 23 tI))))))))))))) r
abbrev qqK:HpL:=[(0,0,qaa ([]:List Pt)),(1,0,qaa ([]:List Pt))]
theorem quT (c1:Fn 10 1 [.ag [.pv (iV 0),.ls 0 ([]:List Pt).length]] [(0,0,qaa ([]:List Pt))] (.pv (.tuple #[.slice none 0 0,iV 8])) 0 []) (c2:Fn 11 2 [.ag [.pv (iV 0),.ls 0 ([]:List Pt).length],qas 1 qaQ,.pv (qab 0 0)] [(0,0,qaa ([]:List Pt)),(1,0,qag qaQ)] (.pv (.tuple #[.bool false,iV 8])) 0 []) (c3:Fn 12 1 [.ag [.pv (iV 0),.ls 0 ([]:List Pt).length],.pv (iV (-1))] [(0,0,qaa ([]:List Pt))] (.pv (.tuple #[iV 0,iV 8])) 0 []) (c4:Fn 13 1 [.ag [.pv (iV 0),.ls 0 ([]:List Pt).length],.pv (iV (0))] [(0,0,qaa ([]:List Pt))] (.pv (.tuple #[.agg #[iV 0,.slice none 0 0],.agg #[iV 0,.slice none 0 0],iV 8])) 0 []) (hg:qgK) (c5:Fn 14 3 [.ag [.pv (iV (-1)),.ls 0 ([]:List Pt).length],.ag [.pv (iV 0),.ls 1 ([]:List Pt).length],qas 2 qap,.pv (qab 0 0)] [(0,0,qaa ([]:List Pt)),(1,0,qaa ([]:List Pt)),(2,0,qag qap)] (.pv (.tuple #[.agg #[iV 0,.slice none 0 0],iV 8])) 0 []) (c6:Fn 16 2 [.ag [.pv (iV 0),.ls 0 ([]:List Pt).length],.ag [.pv (iV (-1)),.ls 1 ([]:List Pt).length]] qqK (.pv (.tuple #[.bool false,iV 8])) 0 []) (c7:Fn 16 2 [.ag [.pv (iV (-1)),.ls 0 ([]:List Pt).length],.ag [.pv (iV 0),.ls 1 ([]:List Pt).length]] qqK (.pv (.tuple #[.bool false,iV 8])) 0 []) (c8:Fn 17 1 [.ag [.pv (iV 0),.ls 0 ([]:List Pt).length]] [(0,0,qaa ([]:List Pt))] (.pv (iV (8))) 0 []) {e:Exit} {tm2:TmL} {hp2:HpL}
 (r:Rl 0 0 3 0 460 18 ([(1,.pp 0 0),(3,.ps 14 0 14 14),(4,.pv (iV (2)))]) (qcy) e tm2 hp2):Rl 0 0 3 0 460 18 ([(1,.pp 0 0),(3,.ps 14 0 14 14),(4,.pv (iV (1)))]) (qcy) e tm2 hp2:=
 RunsL.next [] 400 [.k,.k,Cf c1 [16],.md,Cf c2 [16,18],Cf c3 [16],Cf c4 [16],.md,Cf hg [],Cf c5 [15,16,21],.md,Cf c6 [16,15],.md,Cf c7 [15,16],Cf c8 [16],.k,.k,.k,.k,.k,.k,.k,.k,.k]
  (Ro (Co c1 [16] 18 (Ai (show (0:Int)≤65 from by decide) (Ai (Eq.refl (65:Int)) (Ai (show (65:Int)≤1000000 from by decide) (Co c2 [16,18] 19 (Co c3 [16] 19 (Co c4 [16] 19 (Co hg [] 21 (Co c5 [15,16,21] 22 (Co c6 [16,15] 23 (Co c7 [15,16] 23 (Co c8 [16] 23 tI))))))))))))) r
abbrev qod:HpL:=[(0,0,qaa ([Pt.mk (3) (-1) (-1)]:List Pt))]
theorem qvk (c1:Fn 10 1 [.ag [.pv (iV 1),.ls 0 ([Pt.mk (3) (-1) (-1)]:List Pt).length]] qod (.pv (.tuple #[.slice none 0 0,iV 8])) 0 []) (c2:Fn 11 2 [.ag [.pv (iV 1),.ls 0 ([Pt.mk (3) (-1) (-1)]:List Pt).length],qas 1 qaQ,.pv (qab 0 0)] [(0,0,qaa ([Pt.mk (3) (-1) (-1)]:List Pt)),(1,0,qag qaQ)] (.pv (.tuple #[.bool false,iV 8])) 0 []) (c3:Fn 12 1 [.ag [.pv (iV 1),.ls 0 ([Pt.mk (3) (-1) (-1)]:List Pt).length],.pv (iV (-1))] qod (.pv (.tuple #[iV 0,iV 8])) 0 []) (c4:Fn 13 1 [.ag [.pv (iV 1),.ls 0 ([Pt.mk (3) (-1) (-1)]:List Pt).length],.pv (iV (0))] qod (.pv (.tuple #[.agg #[iV 0,.slice none 0 0],.agg #[iV 0,.slice none 0 0],iV 8])) 0 []) (hg:qgK) (c5:Fn 14 3 [.ag [.pv (iV (-1)),.ls 0 ([]:List Pt).length],.ag [.pv (iV 1),.ls 1 ([Pt.mk (3) (-1) (-1)]:List Pt).length],qas 2 qap,.pv (qab 0 0)] [(0,0,qaa ([]:List Pt)),(1,0,qaa ([Pt.mk (3) (-1) (-1)]:List Pt)),(2,0,qag qap)] (.pv (.tuple #[.agg #[iV 0,.slice none 0 0],iV 8])) 0 []) (c6:Fn 16 2 [.ag [.pv (iV 1),.ls 0 ([Pt.mk (3) (-1) (-1)]:List Pt).length],.ag [.pv (iV (-1)),.ls 1 ([]:List Pt).length]] [(0,0,qaa ([Pt.mk (3) (-1) (-1)]:List Pt)),(1,0,qaa ([]:List Pt))] (.pv (.tuple #[.bool false,iV 8])) 0 []) (c7:Fn 16 2 [.ag [.pv (iV (-1)),.ls 0 ([]:List Pt).length],.ag [.pv (iV 1),.ls 1 ([Pt.mk (3) (-1) (-1)]:List Pt).length]] [(0,0,qaa ([]:List Pt)),(1,0,qaa ([Pt.mk (3) (-1) (-1)]:List Pt))] (.pv (.tuple #[.bool false,iV 8])) 0 []) (c8:Fn 17 1 [.ag [.pv (iV 1),.ls 0 ([Pt.mk (3) (-1) (-1)]:List Pt).length]] qod (.pv (iV (8))) 0 []) {e:Exit} {tm2:TmL} {hp2:HpL}
 (r:Rl 0 0 3 0 460 18 ([(1,.pp 0 0),(3,.ps 14 0 14 14),(4,.pv (iV (3)))]) (qcy) e tm2 hp2):Rl 0 0 3 0 460 18 ([(1,.pp 0 0),(3,.ps 14 0 14 14),(4,.pv (iV (2)))]) (qcy) e tm2 hp2:=
 RunsL.next [] 400 [.k,.k,Cf c1 [3],.md,Cf c2 [3,18],Cf c3 [3],Cf c4 [3],.md,Cf hg [],Cf c5 [15,3,21],.md,Cf c6 [3,15],.md,Cf c7 [15,3],Cf c8 [3],.k,.k,.k,.k,.k,.k,.k,.k,.k]
  (Ro (Co c1 [3] 18 (Ai (show (0:Int)≤65 from by decide) (Ai (Eq.refl (65:Int)) (Ai (show (65:Int)≤1000000 from by decide) (Co c2 [3,18] 19 (Co c3 [3] 19 (Co c4 [3] 19 (Co hg [] 21 (Co c5 [15,3,21] 22 (Co c6 [3,15] 23 (Co c7 [15,3] 23 (Co c8 [3] 23 tI))))))))))))) r
theorem qvh (c1:Fn 10 1 [.ag [.pv (iV (-2)),.ls 0 ([]:List Pt).length]] [(0,0,qaa ([]:List Pt))] (.pv (.tuple #[.slice none 0 0,iV 8])) 0 []) (c2:Fn 11 2 [.ag [.pv (iV (-2)),.ls 0 ([]:List Pt).length],qas 1 qaQ,.pv (qab 0 0)] [(0,0,qaa ([]:List Pt)),(1,0,qag qaQ)] (.pv (.tuple #[.bool false,iV 8])) 0 []) (c3:Fn 12 1 [.ag [.pv (iV (-2)),.ls 0 ([]:List Pt).length],.pv (iV (-1))] [(0,0,qaa ([]:List Pt))] (.pv (.tuple #[iV 0,iV 8])) 0 []) (c4:Fn 13 1 [.ag [.pv (iV (-2)),.ls 0 ([]:List Pt).length],.pv (iV (0))] [(0,0,qaa ([]:List Pt))] (.pv (.tuple #[.agg #[iV 0,.slice none 0 0],.agg #[iV 0,.slice none 0 0],iV 8])) 0 []) (hg:qgK) (c5:Fn 14 3 [.ag [.pv (iV (-1)),.ls 0 ([]:List Pt).length],.ag [.pv (iV (-2)),.ls 1 ([]:List Pt).length],qas 2 qap,.pv (qab 0 0)] [(0,0,qaa ([]:List Pt)),(1,0,qaa ([]:List Pt)),(2,0,qag qap)] (.pv (.tuple #[.agg #[iV 0,.slice none 0 0],iV 8])) 0 []) (c6:Fn 16 2 [.ag [.pv (iV (-2)),.ls 0 ([]:List Pt).length],.ag [.pv (iV (-1)),.ls 1 ([]:List Pt).length]] qqK (.pv (.tuple #[.bool false,iV 8])) 0 []) (c7:Fn 16 2 [.ag [.pv (iV (-1)),.ls 0 ([]:List Pt).length],.ag [.pv (iV (-2)),.ls 1 ([]:List Pt).length]] qqK (.pv (.tuple #[.bool false,iV 8])) 0 []) (c8:Fn 17 1 [.ag [.pv (iV (-2)),.ls 0 ([]:List Pt).length]] [(0,0,qaa ([]:List Pt))] (.pv (iV (8))) 0 []) {e:Exit} {tm2:TmL} {hp2:HpL}
 (r:Rl 0 0 3 0 460 18 ([(1,.pp 0 0),(3,.ps 14 0 14 14),(4,.pv (iV (4)))]) (qcy) e tm2 hp2):Rl 0 0 3 0 460 18 ([(1,.pp 0 0),(3,.ps 14 0 14 14),(4,.pv (iV (3)))]) (qcy) e tm2 hp2:=
 RunsL.next [] 400 [.k,.k,Cf c1 [17],.md,Cf c2 [17,18],Cf c3 [17],Cf c4 [17],.md,Cf hg [],Cf c5 [15,17,21],.md,Cf c6 [17,15],.md,Cf c7 [15,17],Cf c8 [17],.k,.k,.k,.k,.k,.k,.k,.k,.k]
  (Ro (Co c1 [17] 18 (Ai (show (0:Int)≤65 from by decide) (Ai (Eq.refl (65:Int)) (Ai (show (65:Int)≤1000000 from by decide) (Co c2 [17,18] 19 (Co c3 [17] 19 (Co c4 [17] 19 (Co hg [] 21 (Co c5 [15,17,21] 22 (Co c6 [17,15] 23 (Co c7 [15,17] 23 (Co c8 [17] 23 tI))))))))))))) r
theorem qug (c1:Fn 10 1 [.ag [.pv (iV (-1)),.ls 0 ([Pt.mk (3) (-1) (-1)]:List Pt).length]] qod (.pv (.tuple #[.slice none 0 0,iV 8])) 0 []) (c2:Fn 11 2 [.ag [.pv (iV (-1)),.ls 0 ([Pt.mk (3) (-1) (-1)]:List Pt).length],qas 1 qaQ,.pv (qab 0 0)] [(0,0,qaa ([Pt.mk (3) (-1) (-1)]:List Pt)),(1,0,qag qaQ)] (.pv (.tuple #[.bool false,iV 8])) 0 []) (c3:Fn 12 1 [.ag [.pv (iV (-1)),.ls 0 ([Pt.mk (3) (-1) (-1)]:List Pt).length],.pv (iV (-1))] qod (.pv (.tuple #[iV 0,iV 8])) 0 []) (c4:Fn 13 1 [.ag [.pv (iV (-1)),.ls 0 ([Pt.mk (3) (-1) (-1)]:List Pt).length],.pv (iV (0))] qod (.pv (.tuple #[.agg #[iV 0,.slice none 0 0],.agg #[iV 0,.slice none 0 0],iV 8])) 0 []) (hg:qgK) (c5:Fn 14 3 [.ag [.pv (iV (-1)),.ls 0 ([]:List Pt).length],.ag [.pv (iV (-1)),.ls 1 ([Pt.mk (3) (-1) (-1)]:List Pt).length],qas 2 qap,.pv (qab 0 0)] [(0,0,qaa ([]:List Pt)),(1,0,qaa ([Pt.mk (3) (-1) (-1)]:List Pt)),(2,0,qag qap)] (.pv (.tuple #[.agg #[iV 0,.slice none 0 0],iV 8])) 0 []) (c6:Fn 16 2 [.ag [.pv (iV (-1)),.ls 0 ([Pt.mk (3) (-1) (-1)]:List Pt).length],.ag [.pv (iV (-1)),.ls 1 ([]:List Pt).length]] [(0,0,qaa ([Pt.mk (3) (-1) (-1)]:List Pt)),(1,0,qaa ([]:List Pt))] (.pv (.tuple #[.bool false,iV 8])) 0 []) (c7:Fn 16 2 [.ag [.pv (iV (-1)),.ls 0 ([]:List Pt).length],.ag [.pv (iV (-1)),.ls 1 ([Pt.mk (3) (-1) (-1)]:List Pt).length]] [(0,0,qaa ([]:List Pt)),(1,0,qaa ([Pt.mk (3) (-1) (-1)]:List Pt))] (.pv (.tuple #[.bool false,iV 8])) 0 []) (c8:Fn 17 1 [.ag [.pv (iV (-1)),.ls 0 ([Pt.mk (3) (-1) (-1)]:List Pt).length]] qod (.pv (iV (8))) 0 []) {e:Exit} {tm2:TmL} {hp2:HpL}
 (r:Rl 0 0 3 0 460 18 ([(1,.pp 0 0),(3,.ps 14 0 14 14),(4,.pv (iV (5)))]) (qcy) e tm2 hp2):Rl 0 0 3 0 460 18 ([(1,.pp 0 0),(3,.ps 14 0 14 14),(4,.pv (iV (4)))]) (qcy) e tm2 hp2:=
 RunsL.next [] 400 [.k,.k,Cf c1 [4],.md,Cf c2 [4,18],Cf c3 [4],Cf c4 [4],.md,Cf hg [],Cf c5 [15,4,21],.md,Cf c6 [4,15],.md,Cf c7 [15,4],Cf c8 [4],.k,.k,.k,.k,.k,.k,.k,.k,.k]
  (Ro (Co c1 [4] 18 (Ai (show (0:Int)≤65 from by decide) (Ai (Eq.refl (65:Int)) (Ai (show (65:Int)≤1000000 from by decide) (Co c2 [4,18] 19 (Co c3 [4] 19 (Co c4 [4] 19 (Co hg [] 21 (Co c5 [15,4,21] 22 (Co c6 [4,15] 23 (Co c7 [15,4] 23 (Co c8 [4] 23 tI))))))))))))) r
abbrev qlq:HpL:=[(0,0,qaa ([Pt.mk (3) (0) (-1)]:List Pt))]
theorem qub (c1:Fn 10 1 [.ag [.pv (iV 0),.ls 0 ([Pt.mk (3) (0) (-1)]:List Pt).length]] qlq (.pv (.tuple #[.slice none 0 0,iV 8])) 0 []) (c2:Fn 11 2 [.ag [.pv (iV 0),.ls 0 ([Pt.mk (3) (0) (-1)]:List Pt).length],qas 1 qaQ,.pv (qab 0 0)] [(0,0,qaa ([Pt.mk (3) (0) (-1)]:List Pt)),(1,0,qag qaQ)] (.pv (.tuple #[.bool false,iV 8])) 0 []) (c3:Fn 12 1 [.ag [.pv (iV 0),.ls 0 ([Pt.mk (3) (0) (-1)]:List Pt).length],.pv (iV (-1))] qlq (.pv (.tuple #[iV 0,iV 8])) 0 []) (c4:Fn 13 1 [.ag [.pv (iV 0),.ls 0 ([Pt.mk (3) (0) (-1)]:List Pt).length],.pv (iV (0))] qlq (.pv (.tuple #[.agg #[iV 0,.slice none 0 0],.agg #[iV 0,.slice none 0 0],iV 8])) 0 []) (hg:qgK) (c5:Fn 14 3 [.ag [.pv (iV (-1)),.ls 0 ([]:List Pt).length],.ag [.pv (iV 0),.ls 1 ([Pt.mk (3) (0) (-1)]:List Pt).length],qas 2 qap,.pv (qab 0 0)] [(0,0,qaa ([]:List Pt)),(1,0,qaa ([Pt.mk (3) (0) (-1)]:List Pt)),(2,0,qag qap)] (.pv (.tuple #[.agg #[iV 0,.slice none 0 0],iV 8])) 0 []) (c6:Fn 16 2 [.ag [.pv (iV 0),.ls 0 ([Pt.mk (3) (0) (-1)]:List Pt).length],.ag [.pv (iV (-1)),.ls 1 ([]:List Pt).length]] [(0,0,qaa ([Pt.mk (3) (0) (-1)]:List Pt)),(1,0,qaa ([]:List Pt))] (.pv (.tuple #[.bool false,iV 8])) 0 []) (c7:Fn 16 2 [.ag [.pv (iV (-1)),.ls 0 ([]:List Pt).length],.ag [.pv (iV 0),.ls 1 ([Pt.mk (3) (0) (-1)]:List Pt).length]] [(0,0,qaa ([]:List Pt)),(1,0,qaa ([Pt.mk (3) (0) (-1)]:List Pt))] (.pv (.tuple #[.bool false,iV 8])) 0 []) (c8:Fn 17 1 [.ag [.pv (iV 0),.ls 0 ([Pt.mk (3) (0) (-1)]:List Pt).length]] qlq (.pv (iV (8))) 0 []) {e:Exit} {tm2:TmL} {hp2:HpL}
 (r:Rl 0 0 3 0 460 18 ([(1,.pp 0 0),(3,.ps 14 0 14 14),(4,.pv (iV (6)))]) (qcy) e tm2 hp2):Rl 0 0 3 0 460 18 ([(1,.pp 0 0),(3,.ps 14 0 14 14),(4,.pv (iV (5)))]) (qcy) e tm2 hp2:=
 RunsL.next [] 400 [.k,.k,Cf c1 [5],.md,Cf c2 [5,18],Cf c3 [5],Cf c4 [5],.md,Cf hg [],Cf c5 [15,5,21],.md,Cf c6 [5,15],.md,Cf c7 [15,5],Cf c8 [5],.k,.k,.k,.k,.k,.k,.k,.k,.k]
  (Ro (Co c1 [5] 18 (Ai (show (0:Int)≤65 from by decide) (Ai (Eq.refl (65:Int)) (Ai (show (65:Int)≤1000000 from by decide) (Co c2 [5,18] 19 (Co c3 [5] 19 (Co c4 [5] 19 (Co hg [] 21 (Co c5 [15,5,21] 22 (Co c6 [5,15] 23 (Co c7 [15,5] 23 (Co c8 [5] 23 tI))))))))))))) r
abbrev qnl:HpL:=[(0,0,qaa ([Pt.mk (3) (-1) (1)]:List Pt))]
theorem quA (c1:Fn 10 1 [.ag [.pv (iV 0),.ls 0 ([Pt.mk (3) (-1) (1)]:List Pt).length]] qnl (.pv (.tuple #[.slice none 0 0,iV 8])) 0 []) (c2:Fn 11 2 [.ag [.pv (iV 0),.ls 0 ([Pt.mk (3) (-1) (1)]:List Pt).length],qas 1 qaQ,.pv (qab 0 0)] [(0,0,qaa ([Pt.mk (3) (-1) (1)]:List Pt)),(1,0,qag qaQ)] (.pv (.tuple #[.bool false,iV 8])) 0 []) (c3:Fn 12 1 [.ag [.pv (iV 0),.ls 0 ([Pt.mk (3) (-1) (1)]:List Pt).length],.pv (iV (-1))] qnl (.pv (.tuple #[iV 0,iV 8])) 0 []) (c4:Fn 13 1 [.ag [.pv (iV 0),.ls 0 ([Pt.mk (3) (-1) (1)]:List Pt).length],.pv (iV (0))] qnl (.pv (.tuple #[.agg #[iV 0,.slice none 0 0],.agg #[iV 0,.slice none 0 0],iV 8])) 0 []) (hg:qgK) (c5:Fn 14 3 [.ag [.pv (iV (-1)),.ls 0 ([]:List Pt).length],.ag [.pv (iV 0),.ls 1 ([Pt.mk (3) (-1) (1)]:List Pt).length],qas 2 qap,.pv (qab 0 0)] [(0,0,qaa ([]:List Pt)),(1,0,qaa ([Pt.mk (3) (-1) (1)]:List Pt)),(2,0,qag qap)] (.pv (.tuple #[.agg #[iV 0,.slice none 0 0],iV 8])) 0 []) (c6:Fn 16 2 [.ag [.pv (iV 0),.ls 0 ([Pt.mk (3) (-1) (1)]:List Pt).length],.ag [.pv (iV (-1)),.ls 1 ([]:List Pt).length]] [(0,0,qaa ([Pt.mk (3) (-1) (1)]:List Pt)),(1,0,qaa ([]:List Pt))] (.pv (.tuple #[.bool false,iV 8])) 0 []) (c7:Fn 16 2 [.ag [.pv (iV (-1)),.ls 0 ([]:List Pt).length],.ag [.pv (iV 0),.ls 1 ([Pt.mk (3) (-1) (1)]:List Pt).length]] [(0,0,qaa ([]:List Pt)),(1,0,qaa ([Pt.mk (3) (-1) (1)]:List Pt))] (.pv (.tuple #[.bool false,iV 8])) 0 []) (c8:Fn 17 1 [.ag [.pv (iV 0),.ls 0 ([Pt.mk (3) (-1) (1)]:List Pt).length]] qnl (.pv (iV (8))) 0 []) {e:Exit} {tm2:TmL} {hp2:HpL}
 (r:Rl 0 0 3 0 460 18 ([(1,.pp 0 0),(3,.ps 14 0 14 14),(4,.pv (iV (7)))]) (qcy) e tm2 hp2):Rl 0 0 3 0 460 18 ([(1,.pp 0 0),(3,.ps 14 0 14 14),(4,.pv (iV (6)))]) (qcy) e tm2 hp2:=
 RunsL.next [] 400 [.k,.k,Cf c1 [6],.md,Cf c2 [6,18],Cf c3 [6],Cf c4 [6],.md,Cf hg [],Cf c5 [15,6,21],.md,Cf c6 [6,15],.md,Cf c7 [15,6],Cf c8 [6],.k,.k,.k,.k,.k,.k,.k,.k,.k]
  (Ro (Co c1 [6] 18 (Ai (show (0:Int)≤65 from by decide) (Ai (Eq.refl (65:Int)) (Ai (show (65:Int)≤1000000 from by decide) (Co c2 [6,18] 19 (Co c3 [6] 19 (Co c4 [6] 19 (Co hg [] 21 (Co c5 [15,6,21] 22 (Co c6 [6,15] 23 (Co c7 [15,6] 23 (Co c8 [6] 23 tI))))))))))))) r
abbrev qtn:HpL:=[(0,0,qaa ([Pt.mk (3) (-1) (-1),Pt.mk (4) (-1) (-1)]:List Pt))]
theorem quB (c1:Fn 10 1 [.ag [.pv (iV 0),.ls 0 ([Pt.mk (3) (-1) (-1),Pt.mk (4) (-1) (-1)]:List Pt).length]] qtn (.pv (.tuple #[.slice none 0 0,iV 8])) 0 []) (c2:Fn 11 2 [.ag [.pv (iV 0),.ls 0 ([Pt.mk (3) (-1) (-1),Pt.mk (4) (-1) (-1)]:List Pt).length],qas 1 qaQ,.pv (qab 0 0)] [(0,0,qaa ([Pt.mk (3) (-1) (-1),Pt.mk (4) (-1) (-1)]:List Pt)),(1,0,qag qaQ)] (.pv (.tuple #[.bool false,iV 8])) 0 []) (c3:Fn 12 1 [.ag [.pv (iV 0),.ls 0 ([Pt.mk (3) (-1) (-1),Pt.mk (4) (-1) (-1)]:List Pt).length],.pv (iV (-1))] qtn (.pv (.tuple #[iV 0,iV 8])) 0 []) (c4:Fn 13 1 [.ag [.pv (iV 0),.ls 0 ([Pt.mk (3) (-1) (-1),Pt.mk (4) (-1) (-1)]:List Pt).length],.pv (iV (0))] qtn (.pv (.tuple #[.agg #[iV 0,.slice none 0 0],.agg #[iV 0,.slice none 0 0],iV 8])) 0 []) (hg:qgK) (c5:Fn 14 3 [.ag [.pv (iV (-1)),.ls 0 ([]:List Pt).length],.ag [.pv (iV 0),.ls 1 ([Pt.mk (3) (-1) (-1),Pt.mk (4) (-1) (-1)]:List Pt).length],qas 2 qap,.pv (qab 0 0)] [(0,0,qaa ([]:List Pt)),(1,0,qaa ([Pt.mk (3) (-1) (-1),Pt.mk (4) (-1) (-1)]:List Pt)),(2,0,qag qap)] (.pv (.tuple #[.agg #[iV 0,.slice none 0 0],iV 8])) 0 []) (c6:Fn 16 2 [.ag [.pv (iV 0),.ls 0 ([Pt.mk (3) (-1) (-1),Pt.mk (4) (-1) (-1)]:List Pt).length],.ag [.pv (iV (-1)),.ls 1 ([]:List Pt).length]] [(0,0,qaa ([Pt.mk (3) (-1) (-1),Pt.mk (4) (-1) (-1)]:List Pt)),(1,0,qaa ([]:List Pt))] (.pv (.tuple #[.bool false,iV 8])) 0 []) (c7:Fn 16 2 [.ag [.pv (iV (-1)),.ls 0 ([]:List Pt).length],.ag [.pv (iV 0),.ls 1 ([Pt.mk (3) (-1) (-1),Pt.mk (4) (-1) (-1)]:List Pt).length]] [(0,0,qaa ([]:List Pt)),(1,0,qaa ([Pt.mk (3) (-1) (-1),Pt.mk (4) (-1) (-1)]:List Pt))] (.pv (.tuple #[.bool false,iV 8])) 0 []) (c8:Fn 17 1 [.ag [.pv (iV 0),.ls 0 ([Pt.mk (3) (-1) (-1),Pt.mk (4) (-1) (-1)]:List Pt).length]] qtn (.pv (iV (8))) 0 []) {e:Exit} {tm2:TmL} {hp2:HpL}
 (r:Rl 0 0 3 0 460 18 ([(1,.pp 0 0),(3,.ps 14 0 14 14),(4,.pv (iV (8)))]) (qcy) e tm2 hp2):Rl 0 0 3 0 460 18 ([(1,.pp 0 0),(3,.ps 14 0 14 14),(4,.pv (iV (7)))]) (qcy) e tm2 hp2:=
 RunsL.next [] 400 [.k,.k,Cf c1 [7],.md,Cf c2 [7,18],Cf c3 [7],Cf c4 [7],.md,Cf hg [],Cf c5 [15,7,21],.md,Cf c6 [7,15],.md,Cf c7 [15,7],Cf c8 [7],.k,.k,.k,.k,.k,.k,.k,.k,.k]
  (Ro (Co c1 [7] 18 (Ai (show (0:Int)≤65 from by decide) (Ai (Eq.refl (65:Int)) (Ai (show (65:Int)≤1000000 from by decide) (Co c2 [7,18] 19 (Co c3 [7] 19 (Co c4 [7] 19 (Co hg [] 21 (Co c5 [15,7,21] 22 (Co c6 [7,15] 23 (Co c7 [15,7] 23 (Co c8 [7] 23 tI))))))))))))) r
abbrev qtT:HpL:=[(0,0,qaa ([Pt.mk (3) (1) (-1),Pt.mk (4) (-1) (-1)]:List Pt))]
theorem quI (c1:Fn 10 1 [.ag [.pv (iV 0),.ls 0 ([Pt.mk (3) (1) (-1),Pt.mk (4) (-1) (-1)]:List Pt).length]] qtT (.pv (.tuple #[.slice none 0 0,iV 8])) 0 []) (c2:Fn 11 2 [.ag [.pv (iV 0),.ls 0 ([Pt.mk (3) (1) (-1),Pt.mk (4) (-1) (-1)]:List Pt).length],qas 1 qaQ,.pv (qab 0 0)] [(0,0,qaa ([Pt.mk (3) (1) (-1),Pt.mk (4) (-1) (-1)]:List Pt)),(1,0,qag qaQ)] (.pv (.tuple #[.bool false,iV 8])) 0 []) (c3:Fn 12 1 [.ag [.pv (iV 0),.ls 0 ([Pt.mk (3) (1) (-1),Pt.mk (4) (-1) (-1)]:List Pt).length],.pv (iV (-1))] qtT (.pv (.tuple #[iV 0,iV 8])) 0 []) (c4:Fn 13 1 [.ag [.pv (iV 0),.ls 0 ([Pt.mk (3) (1) (-1),Pt.mk (4) (-1) (-1)]:List Pt).length],.pv (iV (0))] qtT (.pv (.tuple #[.agg #[iV 0,.slice none 0 0],.agg #[iV 0,.slice none 0 0],iV 8])) 0 []) (hg:qgK) (c5:Fn 14 3 [.ag [.pv (iV (-1)),.ls 0 ([]:List Pt).length],.ag [.pv (iV 0),.ls 1 ([Pt.mk (3) (1) (-1),Pt.mk (4) (-1) (-1)]:List Pt).length],qas 2 qap,.pv (qab 0 0)] [(0,0,qaa ([]:List Pt)),(1,0,qaa ([Pt.mk (3) (1) (-1),Pt.mk (4) (-1) (-1)]:List Pt)),(2,0,qag qap)] (.pv (.tuple #[.agg #[iV 0,.slice none 0 0],iV 8])) 0 []) (c6:Fn 16 2 [.ag [.pv (iV 0),.ls 0 ([Pt.mk (3) (1) (-1),Pt.mk (4) (-1) (-1)]:List Pt).length],.ag [.pv (iV (-1)),.ls 1 ([]:List Pt).length]] [(0,0,qaa ([Pt.mk (3) (1) (-1),Pt.mk (4) (-1) (-1)]:List Pt)),(1,0,qaa ([]:List Pt))] (.pv (.tuple #[.bool false,iV 8])) 0 []) (c7:Fn 16 2 [.ag [.pv (iV (-1)),.ls 0 ([]:List Pt).length],.ag [.pv (iV 0),.ls 1 ([Pt.mk (3) (1) (-1),Pt.mk (4) (-1) (-1)]:List Pt).length]] [(0,0,qaa ([]:List Pt)),(1,0,qaa ([Pt.mk (3) (1) (-1),Pt.mk (4) (-1) (-1)]:List Pt))] (.pv (.tuple #[.bool false,iV 8])) 0 []) (c8:Fn 17 1 [.ag [.pv (iV 0),.ls 0 ([Pt.mk (3) (1) (-1),Pt.mk (4) (-1) (-1)]:List Pt).length]] qtT (.pv (iV (8))) 0 []) {e:Exit} {tm2:TmL} {hp2:HpL}
 (r:Rl 0 0 3 0 460 18 ([(1,.pp 0 0),(3,.ps 14 0 14 14),(4,.pv (iV (9)))]) (qcy) e tm2 hp2):Rl 0 0 3 0 460 18 ([(1,.pp 0 0),(3,.ps 14 0 14 14),(4,.pv (iV (8)))]) (qcy) e tm2 hp2:=
 RunsL.next [] 400 [.k,.k,Cf c1 [8],.md,Cf c2 [8,18],Cf c3 [8],Cf c4 [8],.md,Cf hg [],Cf c5 [15,8,21],.md,Cf c6 [8,15],.md,Cf c7 [15,8],Cf c8 [8],.k,.k,.k,.k,.k,.k,.k,.k,.k]
  (Ro (Co c1 [8] 18 (Ai (show (0:Int)≤65 from by decide) (Ai (Eq.refl (65:Int)) (Ai (show (65:Int)≤1000000 from by decide) (Co c2 [8,18] 19 (Co c3 [8] 19 (Co c4 [8] 19 (Co hg [] 21 (Co c5 [15,8,21] 22 (Co c6 [8,15] 23 (Co c7 [15,8] 23 (Co c8 [8] 23 tI))))))))))))) r
abbrev qtp:HpL:=[(0,0,qaa ([Pt.mk (3) (-1) (1),Pt.mk (3) (-1) (-1)]:List Pt))]
theorem qtW (c1:Fn 10 1 [.ag [.pv (iV 0),.ls 0 ([Pt.mk (3) (-1) (1),Pt.mk (3) (-1) (-1)]:List Pt).length]] qtp (.pv (.tuple #[.slice none 0 0,iV 8])) 0 []) (c2:Fn 11 2 [.ag [.pv (iV 0),.ls 0 ([Pt.mk (3) (-1) (1),Pt.mk (3) (-1) (-1)]:List Pt).length],qas 1 qaQ,.pv (qab 0 0)] [(0,0,qaa ([Pt.mk (3) (-1) (1),Pt.mk (3) (-1) (-1)]:List Pt)),(1,0,qag qaQ)] (.pv (.tuple #[.bool false,iV 8])) 0 []) (c3:Fn 12 1 [.ag [.pv (iV 0),.ls 0 ([Pt.mk (3) (-1) (1),Pt.mk (3) (-1) (-1)]:List Pt).length],.pv (iV (-1))] qtp (.pv (.tuple #[iV 0,iV 8])) 0 []) (c4:Fn 13 1 [.ag [.pv (iV 0),.ls 0 ([Pt.mk (3) (-1) (1),Pt.mk (3) (-1) (-1)]:List Pt).length],.pv (iV (0))] qtp (.pv (.tuple #[.agg #[iV 0,.slice none 0 0],.agg #[iV 0,.slice none 0 0],iV 8])) 0 []) (hg:qgK) (c5:Fn 14 3 [.ag [.pv (iV (-1)),.ls 0 ([]:List Pt).length],.ag [.pv (iV 0),.ls 1 ([Pt.mk (3) (-1) (1),Pt.mk (3) (-1) (-1)]:List Pt).length],qas 2 qap,.pv (qab 0 0)] [(0,0,qaa ([]:List Pt)),(1,0,qaa ([Pt.mk (3) (-1) (1),Pt.mk (3) (-1) (-1)]:List Pt)),(2,0,qag qap)] (.pv (.tuple #[.agg #[iV 0,.slice none 0 0],iV 8])) 0 []) (c6:Fn 16 2 [.ag [.pv (iV 0),.ls 0 ([Pt.mk (3) (-1) (1),Pt.mk (3) (-1) (-1)]:List Pt).length],.ag [.pv (iV (-1)),.ls 1 ([]:List Pt).length]] [(0,0,qaa ([Pt.mk (3) (-1) (1),Pt.mk (3) (-1) (-1)]:List Pt)),(1,0,qaa ([]:List Pt))] (.pv (.tuple #[.bool false,iV 8])) 0 []) (c7:Fn 16 2 [.ag [.pv (iV (-1)),.ls 0 ([]:List Pt).length],.ag [.pv (iV 0),.ls 1 ([Pt.mk (3) (-1) (1),Pt.mk (3) (-1) (-1)]:List Pt).length]] [(0,0,qaa ([]:List Pt)),(1,0,qaa ([Pt.mk (3) (-1) (1),Pt.mk (3) (-1) (-1)]:List Pt))] (.pv (.tuple #[.bool false,iV 8])) 0 []) (c8:Fn 17 1 [.ag [.pv (iV 0),.ls 0 ([Pt.mk (3) (-1) (1),Pt.mk (3) (-1) (-1)]:List Pt).length]] qtp (.pv (iV (8))) 0 []) {e:Exit} {tm2:TmL} {hp2:HpL}
 (r:Rl 0 0 3 0 460 18 ([(1,.pp 0 0),(3,.ps 14 0 14 14),(4,.pv (iV (10)))]) (qcy) e tm2 hp2):Rl 0 0 3 0 460 18 ([(1,.pp 0 0),(3,.ps 14 0 14 14),(4,.pv (iV (9)))]) (qcy) e tm2 hp2:=
 RunsL.next [] 400 [.k,.k,Cf c1 [9],.md,Cf c2 [9,18],Cf c3 [9],Cf c4 [9],.md,Cf hg [],Cf c5 [15,9,21],.md,Cf c6 [9,15],.md,Cf c7 [15,9],Cf c8 [9],.k,.k,.k,.k,.k,.k,.k,.k,.k]
  (Ro (Co c1 [9] 18 (Ai (show (0:Int)≤65 from by decide) (Ai (Eq.refl (65:Int)) (Ai (show (65:Int)≤1000000 from by decide) (Co c2 [9,18] 19 (Co c3 [9] 19 (Co c4 [9] 19 (Co hg [] 21 (Co c5 [15,9,21] 22 (Co c6 [9,15] 23 (Co c7 [15,9] 23 (Co c8 [9] 23 tI))))))))))))) r
abbrev qmB:HpL:=[(0,0,qaa ([Pt.mk (-1) (-1) (-1)]:List Pt))]
theorem qrP (c1:Fn 10 1 [.ag [.pv (iV 0),.ls 0 ([Pt.mk (-1) (-1) (-1)]:List Pt).length]] qmB (.pv (.tuple #[.slice none 0 0,iV 8])) 0 []) (c2:Fn 11 2 [.ag [.pv (iV 0),.ls 0 ([Pt.mk (-1) (-1) (-1)]:List Pt).length],qas 1 qaQ,.pv (qab 0 0)] [(0,0,qaa ([Pt.mk (-1) (-1) (-1)]:List Pt)),(1,0,qag qaQ)] (.pv (.tuple #[.bool false,iV 8])) 0 []) (c3:Fn 12 1 [.ag [.pv (iV 0),.ls 0 ([Pt.mk (-1) (-1) (-1)]:List Pt).length],.pv (iV (-1))] qmB (.pv (.tuple #[iV 0,iV 8])) 0 []) (c4:Fn 13 1 [.ag [.pv (iV 0),.ls 0 ([Pt.mk (-1) (-1) (-1)]:List Pt).length],.pv (iV (0))] qmB (.pv (.tuple #[.agg #[iV 0,.slice none 0 0],.agg #[iV 0,.slice none 0 0],iV 8])) 0 []) (hg:qgK) (c5:Fn 14 3 [.ag [.pv (iV (-1)),.ls 0 ([]:List Pt).length],.ag [.pv (iV 0),.ls 1 ([Pt.mk (-1) (-1) (-1)]:List Pt).length],qas 2 qap,.pv (qab 0 0)] [(0,0,qaa ([]:List Pt)),(1,0,qaa ([Pt.mk (-1) (-1) (-1)]:List Pt)),(2,0,qag qap)] (.pv (.tuple #[.agg #[iV 0,.slice none 0 0],iV 8])) 0 []) (c6:Fn 16 2 [.ag [.pv (iV 0),.ls 0 ([Pt.mk (-1) (-1) (-1)]:List Pt).length],.ag [.pv (iV (-1)),.ls 1 ([]:List Pt).length]] [(0,0,qaa ([Pt.mk (-1) (-1) (-1)]:List Pt)),(1,0,qaa ([]:List Pt))] (.pv (.tuple #[.bool false,iV 8])) 0 []) (c7:Fn 16 2 [.ag [.pv (iV (-1)),.ls 0 ([]:List Pt).length],.ag [.pv (iV 0),.ls 1 ([Pt.mk (-1) (-1) (-1)]:List Pt).length]] [(0,0,qaa ([]:List Pt)),(1,0,qaa ([Pt.mk (-1) (-1) (-1)]:List Pt))] (.pv (.tuple #[.bool false,iV 8])) 0 []) (c8:Fn 17 1 [.ag [.pv (iV 0),.ls 0 ([Pt.mk (-1) (-1) (-1)]:List Pt).length]] qmB (.pv (iV (8))) 0 []) {e:Exit} {tm2:TmL} {hp2:HpL}
 (r:Rl 0 0 3 0 460 18 ([(1,.pp 0 0),(3,.ps 14 0 14 14),(4,.pv (iV (11)))]) (qcy) e tm2 hp2):Rl 0 0 3 0 460 18 ([(1,.pp 0 0),(3,.ps 14 0 14 14),(4,.pv (iV (10)))]) (qcy) e tm2 hp2:=
 RunsL.next [] 400 [.k,.k,Cf c1 [10],.md,Cf c2 [10,18],Cf c3 [10],Cf c4 [10],.md,Cf hg [],Cf c5 [15,10,21],.md,Cf c6 [10,15],.md,Cf c7 [15,10],Cf c8 [10],.k,.k,.k,.k,.k,.k,.k,.k,.k]
  (Ro (Co c1 [10] 18 (Ai (show (0:Int)≤65 from by decide) (Ai (Eq.refl (65:Int)) (Ai (show (65:Int)≤1000000 from by decide) (Co c2 [10,18] 19 (Co c3 [10] 19 (Co c4 [10] 19 (Co hg [] 21 (Co c5 [15,10,21] 22 (Co c6 [10,15] 23 (Co c7 [15,10] 23 (Co c8 [10] 23 tI))))))))))))) r
abbrev qnG:HpL:=[(0,0,qaa ([Pt.mk (65536) (-1) (-1)]:List Pt))]
theorem qrD (c1:Fn 10 1 [.ag [.pv (iV 0),.ls 0 ([Pt.mk (65536) (-1) (-1)]:List Pt).length]] qnG (.pv (.tuple #[.slice none 0 0,iV 8])) 0 []) (c2:Fn 11 2 [.ag [.pv (iV 0),.ls 0 ([Pt.mk (65536) (-1) (-1)]:List Pt).length],qas 1 qaQ,.pv (qab 0 0)] [(0,0,qaa ([Pt.mk (65536) (-1) (-1)]:List Pt)),(1,0,qag qaQ)] (.pv (.tuple #[.bool false,iV 8])) 0 []) (c3:Fn 12 1 [.ag [.pv (iV 0),.ls 0 ([Pt.mk (65536) (-1) (-1)]:List Pt).length],.pv (iV (-1))] qnG (.pv (.tuple #[iV 0,iV 8])) 0 []) (c4:Fn 13 1 [.ag [.pv (iV 0),.ls 0 ([Pt.mk (65536) (-1) (-1)]:List Pt).length],.pv (iV (0))] qnG (.pv (.tuple #[.agg #[iV 0,.slice none 0 0],.agg #[iV 0,.slice none 0 0],iV 8])) 0 []) (hg:qgK) (c5:Fn 14 3 [.ag [.pv (iV (-1)),.ls 0 ([]:List Pt).length],.ag [.pv (iV 0),.ls 1 ([Pt.mk (65536) (-1) (-1)]:List Pt).length],qas 2 qap,.pv (qab 0 0)] [(0,0,qaa ([]:List Pt)),(1,0,qaa ([Pt.mk (65536) (-1) (-1)]:List Pt)),(2,0,qag qap)] (.pv (.tuple #[.agg #[iV 0,.slice none 0 0],iV 8])) 0 []) (c6:Fn 16 2 [.ag [.pv (iV 0),.ls 0 ([Pt.mk (65536) (-1) (-1)]:List Pt).length],.ag [.pv (iV (-1)),.ls 1 ([]:List Pt).length]] [(0,0,qaa ([Pt.mk (65536) (-1) (-1)]:List Pt)),(1,0,qaa ([]:List Pt))] (.pv (.tuple #[.bool false,iV 8])) 0 []) (c7:Fn 16 2 [.ag [.pv (iV (-1)),.ls 0 ([]:List Pt).length],.ag [.pv (iV 0),.ls 1 ([Pt.mk (65536) (-1) (-1)]:List Pt).length]] [(0,0,qaa ([]:List Pt)),(1,0,qaa ([Pt.mk (65536) (-1) (-1)]:List Pt))] (.pv (.tuple #[.bool false,iV 8])) 0 []) (c8:Fn 17 1 [.ag [.pv (iV 0),.ls 0 ([Pt.mk (65536) (-1) (-1)]:List Pt).length]] qnG (.pv (iV (8))) 0 []) {e:Exit} {tm2:TmL} {hp2:HpL}
 (r:Rl 0 0 3 0 460 18 ([(1,.pp 0 0),(3,.ps 14 0 14 14),(4,.pv (iV (12)))]) (qcy) e tm2 hp2):Rl 0 0 3 0 460 18 ([(1,.pp 0 0),(3,.ps 14 0 14 14),(4,.pv (iV (11)))]) (qcy) e tm2 hp2:=
 RunsL.next [] 400 [.k,.k,Cf c1 [11],.md,Cf c2 [11,18],Cf c3 [11],Cf c4 [11],.md,Cf hg [],Cf c5 [15,11,21],.md,Cf c6 [11,15],.md,Cf c7 [15,11],Cf c8 [11],.k,.k,.k,.k,.k,.k,.k,.k,.k]
  (Ro (Co c1 [11] 18 (Ai (show (0:Int)≤65 from by decide) (Ai (Eq.refl (65:Int)) (Ai (show (65:Int)≤1000000 from by decide) (Co c2 [11,18] 19 (Co c3 [11] 19 (Co c4 [11] 19 (Co hg [] 21 (Co c5 [15,11,21] 22 (Co c6 [11,15] 23 (Co c7 [15,11] 23 (Co c8 [11] 23 tI))))))))))))) r
abbrev qty:HpL:=[(0,0,qaa ([Pt.mk (3) (-1) (-1),Pt.mk (5) (2) (-1),Pt.mk (4) (1) (-1)]:List Pt))]
theorem qsf (c1:Fn 10 1 [.ag [.pv (iV 0),.ls 0 ([Pt.mk (3) (-1) (-1),Pt.mk (5) (2) (-1),Pt.mk (4) (1) (-1)]:List Pt).length]] qty (.pv (.tuple #[.slice none 0 0,iV 8])) 0 []) (c2:Fn 11 2 [.ag [.pv (iV 0),.ls 0 ([Pt.mk (3) (-1) (-1),Pt.mk (5) (2) (-1),Pt.mk (4) (1) (-1)]:List Pt).length],qas 1 qaQ,.pv (qab 0 0)] [(0,0,qaa ([Pt.mk (3) (-1) (-1),Pt.mk (5) (2) (-1),Pt.mk (4) (1) (-1)]:List Pt)),(1,0,qag qaQ)] (.pv (.tuple #[.bool false,iV 8])) 0 []) (c3:Fn 12 1 [.ag [.pv (iV 0),.ls 0 ([Pt.mk (3) (-1) (-1),Pt.mk (5) (2) (-1),Pt.mk (4) (1) (-1)]:List Pt).length],.pv (iV (-1))] qty (.pv (.tuple #[iV 0,iV 8])) 0 []) (c4:Fn 13 1 [.ag [.pv (iV 0),.ls 0 ([Pt.mk (3) (-1) (-1),Pt.mk (5) (2) (-1),Pt.mk (4) (1) (-1)]:List Pt).length],.pv (iV (0))] qty (.pv (.tuple #[.agg #[iV 0,.slice none 0 0],.agg #[iV 0,.slice none 0 0],iV 8])) 0 []) (hg:qgK) (c5:Fn 14 3 [.ag [.pv (iV (-1)),.ls 0 ([]:List Pt).length],.ag [.pv (iV 0),.ls 1 ([Pt.mk (3) (-1) (-1),Pt.mk (5) (2) (-1),Pt.mk (4) (1) (-1)]:List Pt).length],qas 2 qap,.pv (qab 0 0)] [(0,0,qaa ([]:List Pt)),(1,0,qaa ([Pt.mk (3) (-1) (-1),Pt.mk (5) (2) (-1),Pt.mk (4) (1) (-1)]:List Pt)),(2,0,qag qap)] (.pv (.tuple #[.agg #[iV 0,.slice none 0 0],iV 8])) 0 []) (c6:Fn 16 2 [.ag [.pv (iV 0),.ls 0 ([Pt.mk (3) (-1) (-1),Pt.mk (5) (2) (-1),Pt.mk (4) (1) (-1)]:List Pt).length],.ag [.pv (iV (-1)),.ls 1 ([]:List Pt).length]] [(0,0,qaa ([Pt.mk (3) (-1) (-1),Pt.mk (5) (2) (-1),Pt.mk (4) (1) (-1)]:List Pt)),(1,0,qaa ([]:List Pt))] (.pv (.tuple #[.bool false,iV 8])) 0 []) (c7:Fn 16 2 [.ag [.pv (iV (-1)),.ls 0 ([]:List Pt).length],.ag [.pv (iV 0),.ls 1 ([Pt.mk (3) (-1) (-1),Pt.mk (5) (2) (-1),Pt.mk (4) (1) (-1)]:List Pt).length]] [(0,0,qaa ([]:List Pt)),(1,0,qaa ([Pt.mk (3) (-1) (-1),Pt.mk (5) (2) (-1),Pt.mk (4) (1) (-1)]:List Pt))] (.pv (.tuple #[.bool false,iV 8])) 0 []) (c8:Fn 17 1 [.ag [.pv (iV 0),.ls 0 ([Pt.mk (3) (-1) (-1),Pt.mk (5) (2) (-1),Pt.mk (4) (1) (-1)]:List Pt).length]] qty (.pv (iV (8))) 0 []) {e:Exit} {tm2:TmL} {hp2:HpL}
 (r:Rl 0 0 3 0 460 18 ([(1,.pp 0 0),(3,.ps 14 0 14 14),(4,.pv (iV (13)))]) (qcy) e tm2 hp2):Rl 0 0 3 0 460 18 ([(1,.pp 0 0),(3,.ps 14 0 14 14),(4,.pv (iV (12)))]) (qcy) e tm2 hp2:=
 RunsL.next [] 400 [.k,.k,Cf c1 [12],.md,Cf c2 [12,18],Cf c3 [12],Cf c4 [12],.md,Cf hg [],Cf c5 [15,12,21],.md,Cf c6 [12,15],.md,Cf c7 [15,12],Cf c8 [12],.k,.k,.k,.k,.k,.k,.k,.k,.k]
  (Ro (Co c1 [12] 18 (Ai (show (0:Int)≤65 from by decide) (Ai (Eq.refl (65:Int)) (Ai (show (65:Int)≤1000000 from by decide) (Co c2 [12,18] 19 (Co c3 [12] 19 (Co c4 [12] 19 (Co hg [] 21 (Co c5 [15,12,21] 22 (Co c6 [12,15] 23 (Co c7 [15,12] 23 (Co c8 [12] 23 tI))))))))))))) r
abbrev qlI:HpL:=[(0,0,qaa ([Pt.mk (3) (-2) (-1)]:List Pt))]
theorem qr5 (c1:Fn 10 1 [.ag [.pv (iV 0),.ls 0 ([Pt.mk (3) (-2) (-1)]:List Pt).length]] qlI (.pv (.tuple #[.slice none 0 0,iV 8])) 0 []) (c2:Fn 11 2 [.ag [.pv (iV 0),.ls 0 ([Pt.mk (3) (-2) (-1)]:List Pt).length],qas 1 qaQ,.pv (qab 0 0)] [(0,0,qaa ([Pt.mk (3) (-2) (-1)]:List Pt)),(1,0,qag qaQ)] (.pv (.tuple #[.bool false,iV 8])) 0 []) (c3:Fn 12 1 [.ag [.pv (iV 0),.ls 0 ([Pt.mk (3) (-2) (-1)]:List Pt).length],.pv (iV (-1))] qlI (.pv (.tuple #[iV 0,iV 8])) 0 []) (c4:Fn 13 1 [.ag [.pv (iV 0),.ls 0 ([Pt.mk (3) (-2) (-1)]:List Pt).length],.pv (iV (0))] qlI (.pv (.tuple #[.agg #[iV 0,.slice none 0 0],.agg #[iV 0,.slice none 0 0],iV 8])) 0 []) (hg:qgK) (c5:Fn 14 3 [.ag [.pv (iV (-1)),.ls 0 ([]:List Pt).length],.ag [.pv (iV 0),.ls 1 ([Pt.mk (3) (-2) (-1)]:List Pt).length],qas 2 qap,.pv (qab 0 0)] [(0,0,qaa ([]:List Pt)),(1,0,qaa ([Pt.mk (3) (-2) (-1)]:List Pt)),(2,0,qag qap)] (.pv (.tuple #[.agg #[iV 0,.slice none 0 0],iV 8])) 0 []) (c6:Fn 16 2 [.ag [.pv (iV 0),.ls 0 ([Pt.mk (3) (-2) (-1)]:List Pt).length],.ag [.pv (iV (-1)),.ls 1 ([]:List Pt).length]] [(0,0,qaa ([Pt.mk (3) (-2) (-1)]:List Pt)),(1,0,qaa ([]:List Pt))] (.pv (.tuple #[.bool false,iV 8])) 0 []) (c7:Fn 16 2 [.ag [.pv (iV (-1)),.ls 0 ([]:List Pt).length],.ag [.pv (iV 0),.ls 1 ([Pt.mk (3) (-2) (-1)]:List Pt).length]] [(0,0,qaa ([]:List Pt)),(1,0,qaa ([Pt.mk (3) (-2) (-1)]:List Pt))] (.pv (.tuple #[.bool false,iV 8])) 0 []) (c8:Fn 17 1 [.ag [.pv (iV 0),.ls 0 ([Pt.mk (3) (-2) (-1)]:List Pt).length]] qlI (.pv (iV (8))) 0 []) {e:Exit} {tm2:TmL} {hp2:HpL}
 (r:Rl 0 0 3 0 460 18 ([(1,.pp 0 0),(3,.ps 14 0 14 14),(4,.pv (iV (14)))]) (qcy) e tm2 hp2):Rl 0 0 3 0 460 18 ([(1,.pp 0 0),(3,.ps 14 0 14 14),(4,.pv (iV (13)))]) (qcy) e tm2 hp2:=
 RunsL.next [] 400 [.k,.k,Cf c1 [13],.md,Cf c2 [13,18],Cf c3 [13],Cf c4 [13],.md,Cf hg [],Cf c5 [15,13,21],.md,Cf c6 [13,15],.md,Cf c7 [15,13],Cf c8 [13],.k,.k,.k,.k,.k,.k,.k,.k,.k]
  (Ro (Co c1 [13] 18 (Ai (show (0:Int)≤65 from by decide) (Ai (Eq.refl (65:Int)) (Ai (show (65:Int)≤1000000 from by decide) (Co c2 [13,18] 19 (Co c3 [13] 19 (Co c4 [13] 19 (Co hg [] 21 (Co c5 [15,13,21] 22 (Co c6 [13,15] 23 (Co c7 [15,13] 23 (Co c8 [13] 23 tI))))))))))))) r
theorem qnb:Rl 0 0 3 0 460 18 ([(1,.pp 0 0),(3,.ps 14 0 14 14),(4,.pv (iV (14)))]) (qcy) (.exit 0) ([(1,.pp 0 0)]) ([(0,0,.pv (iV (-1))),(0,1,.ls 15 ([]:List Pt).length),(15,0,qaa ([]:List Pt))]):=
 RunsL.stop [] 300 [.k] (fun h=>by cases h)
  (Ro tI)
abbrev qt1:HpL:=[(0,0,qaa ([Pt.mk (5) (-1) (-1),Pt.mk (2) (-1) (0),Pt.mk (1) (-1) (1)]:List Pt)),(1,0,qag qap)]
theorem ql6 (w0:Fn 9 0 [.pv (iV (65:Nat)),.pv (iV (0))] [] (.ag [.pv (iV 0),.ls 0 (qaA 65 0).length]) 1 [(0,0,qaa (qaA 65 0))]) (r0:Rl 0 0 3 0 460 18 ([(1,.pp 0 0),(3,.ps 14 0 14 14),(4,.pv (iV (0)))]) (qcy) (.exit 0) ([(1,.pp 0 0)]) ([(0,0,.pv (iV (-1))),(0,1,.ls 15 ([]:List Pt).length),(15,0,qaa ([]:List Pt))])) (a1:Fn 18 1 [qas 0 qaQ,.pv (qab 0 0)] [(0,0,qag qaQ)] (.pv (.tuple #[.agg #[iV 0,.slice none 0 0],iV 4])) 0 []) (hn:Fn 19 0 [] [] (.ag [.ls 0 0]) 1 [(0,0,.row 80 3 0 [])]) (hat0:Pure Try.prog 20 #[iV (0)] (qab 0 1)) (a2:Fn 18 1 [qas 0 ([]:List Pt),.pv (qab 0 1)] [(0,0,qag ([]:List Pt))] (.tu [.ag [.pv (iV (-1)),.ls 1 ([]:List Pt).length],.one (.pv (iV 0))]) 1 [(1,0,qaa ([]:List Pt))]) (hg:qgK) (a3:Fn 18 1 [qas 0 qap,.pv (qab 0 0)] [(0,0,qag qap)] (.pv (.tuple #[.agg #[iV 0,.slice none 0 0],iV 8])) 0 []) (hc:Fn 21 0 [] [] (trS 0 0 ([Pt.mk (1) (-1) (1),Pt.mk (2) (-1) (2),Pt.mk (5) (-1) (-1)]:List Pt)) 1 [(0,0,qaa ([Pt.mk (1) (-1) (1),Pt.mk (2) (-1) (2),Pt.mk (5) (-1) (-1)]:List Pt))]) (a4:Fn 16 2 [.ag [.pv (iV 2),.ls 0 ([Pt.mk (5) (-1) (-1),Pt.mk (2) (-1) (0),Pt.mk (1) (-1) (1)]:List Pt).length],.ag [.pv (iV 0),.ls 1 ([Pt.mk (1) (-1) (1),Pt.mk (2) (-1) (2),Pt.mk (5) (-1) (-1)]:List Pt).length]] [(0,0,qaa ([Pt.mk (5) (-1) (-1),Pt.mk (2) (-1) (0),Pt.mk (1) (-1) (1)]:List Pt)),(1,0,qaa ([Pt.mk (1) (-1) (1),Pt.mk (2) (-1) (2),Pt.mk (5) (-1) (-1)]:List Pt))] (.pv (.tuple #[.bool true,iV 0])) 0 []) (hat2:Pure Try.prog 20 #[iV (2)] (qab 2 1)) (a5:Fn 11 2 [.ag [.pv (iV 2),.ls 0 ([Pt.mk (5) (-1) (-1),Pt.mk (2) (-1) (0),Pt.mk (1) (-1) (1)]:List Pt).length],qas 1 qap,.pv (qab 2 1)] qt1 (.pv (.tuple #[.bool true,iV 0])) 0 []) (a6:Fn 11 2 [.ag [.pv (iV 2),.ls 0 ([Pt.mk (5) (-1) (-1),Pt.mk (2) (-1) (0),Pt.mk (1) (-1) (1)]:List Pt).length],qas 1 qap,.pv (qab 0 1)] qt1 (.pv (.tuple #[.bool false,iV 0])) 0 []) (a7:Fn 11 2 [.ag [.pv (iV 2),.ls 0 ([Pt.mk (5) (-1) (-1),Pt.mk (2) (-1) (0),Pt.mk (1) (-1) (1)]:List Pt).length],qas 1 qap,.pv (qab 0 0)] qt1 (.pv (.tuple #[.bool false,iV 8])) 0 []) (a8:Fn 13 1 [.ag [.pv (iV 2),.ls 0 ([Pt.mk (5) (-1) (-1),Pt.mk (2) (-1) (0),Pt.mk (1) (-1) (1)]:List Pt).length],.pv (iV (2))] [(0,0,qaa ([Pt.mk (5) (-1) (-1),Pt.mk (2) (-1) (0),Pt.mk (1) (-1) (1)]:List Pt))] (.pv (.tuple #[.agg #[iV 0,.slice none 0 0],.agg #[iV 0,.slice none 0 0],iV 32])) 0 []) (w1:Fn 9 0 [.pv (iV (1:Nat)),.pv (iV (9))] [] (.ag [.pv (iV 0),.ls 0 (qaA 1 9).length]) 1 [(0,0,qaa (qaA 1 9))]) (b1:Fn 14 3 [.ag [.pv (iV 2),.ls 0 ([Pt.mk (5) (-1) (-1),Pt.mk (2) (-1) (0),Pt.mk (1) (-1) (1)]:List Pt).length],.ag [.pv (iV 0),.ls 1 (qaA 1 9).length],qas 2 qaQ,.pv (qab 0 0)] [(0,0,qaa ([Pt.mk (5) (-1) (-1),Pt.mk (2) (-1) (0),Pt.mk (1) (-1) (1)]:List Pt)),(1,0,qaa (qaA 1 9)),(2,0,qag qaQ)] (.pv (.tuple #[.agg #[iV 0,.slice none 0 0],iV 32])) 0 []) (w2:Fn 9 0 [.pv (iV (1:Nat)),.pv (iV (1))] [] (.ag [.pv (iV 0),.ls 0 (qaA 1 1).length]) 1 [(0,0,qaa (qaA 1 1))]) (w3:Fn 9 0 [.pv (iV (1:Nat)),.pv (iV (2))] [] (.ag [.pv (iV 0),.ls 0 (qaA 1 2).length]) 1 [(0,0,qaa (qaA 1 2))]) (b2:Fn 14 3 [.ag [.pv (iV 0),.ls 0 (qaA 1 1).length],.ag [.pv (iV 0),.ls 1 (qaA 1 2).length],qas 2 qaQ,.pv (qab 0 0)] [(0,0,qaa (qaA 1 1)),(1,0,qaa (qaA 1 2)),(2,0,qag qaQ)] (.pv (.tuple #[.agg #[iV 0,.slice none 0 0],iV 4])) 0 []) (b3:Fn 14 3 [.ag [.pv (iV 0),.ls 0 (qaA 1 1).length],.ag [.pv (iV 0),.ls 1 (qaA 1 2).length],qas 2 qap,.pv (qab 0 0)] [(0,0,qaa (qaA 1 1)),(1,0,qaa (qaA 1 2)),(2,0,qag qap)] (.pv (.tuple #[.agg #[iV 0,.slice none 0 0],iV 8])) 0 []) (w4:Fn 9 0 [.pv (iV (40:Nat)),.pv (iV (0))] [] (.ag [.pv (iV 0),.ls 0 (qaA 40 0).length]) 1 [(0,0,qaa (qaA 40 0))]) (w5:Fn 9 0 [.pv (iV (25:Nat)),.pv (iV (50))] [] (.ag [.pv (iV 0),.ls 0 (qaA 25 50).length]) 1 [(0,0,qaa (qaA 25 50))]) (b4:Fn 14 3 [.ag [.pv (iV 0),.ls 0 (qaA 40 0).length],.ag [.pv (iV 0),.ls 1 (qaA 25 50).length],qas 2 qap,.pv (qab 0 1)] [(0,0,qaa (qaA 40 0)),(1,0,qaa (qaA 25 50)),(2,0,qag qap)] (.pv (.tuple #[.agg #[iV 0,.slice none 0 0],iV 4])) 0 []) (w6:Fn 9 0 [.pv (iV (1:Nat)),.pv (iV (3))] [] (.ag [.pv (iV 0),.ls 0 (qaA 1 3).length]) 1 [(0,0,qaa (qaA 1 3))]) (w7:Fn 9 0 [.pv (iV (1:Nat)),.pv (iV (5))] [] (.ag [.pv (iV 0),.ls 0 (qaA 1 5).length]) 1 [(0,0,qaa (qaA 1 5))]) (b5:Fn 14 3 [.ag [.pv (iV 0),.ls 0 (qaA 1 3).length],.ag [.pv (iV 0),.ls 1 (qaA 1 5).length],qas 2 qap,.pv (qab 0 1)] [(0,0,qaa (qaA 1 3)),(1,0,qaa (qaA 1 5)),(2,0,qag qap)] (.pv (.tuple #[.agg #[iV 0,.slice none 0 0],iV 6])) 0 []) (w8:Fn 9 0 [.pv (iV (2:Nat)),.pv (iV (1))] [] (.ag [.pv (iV 0),.ls 0 (qaA 2 1).length]) 1 [(0,0,qaa (qaA 2 1))]) (b6:Fn 14 3 [.ag [.pv (iV 0),.ls 0 (qaA 1 2).length],.ag [.pv (iV 0),.ls 1 (qaA 2 1).length],qas 2 qap,.pv (qab 0 1)] [(0,0,qaa (qaA 1 2)),(1,0,qaa (qaA 2 1)),(2,0,qag qap)] (.pv (.tuple #[.agg #[iV 0,.slice none 0 0],iV 32])) 0 []) (d1:Fn 12 1 [.ag [.pv (iV 0),.ls 0 ([Pt.mk (1) (-1) (1),Pt.mk (2) (-1) (2),Pt.mk (5) (-1) (-1)]:List Pt).length],.pv (iV (3))] [(0,0,qaa ([Pt.mk (1) (-1) (1),Pt.mk (2) (-1) (2),Pt.mk (5) (-1) (-1)]:List Pt))] (.pv (.tuple #[iV 0,iV 6])) 0 []) (d2:Fn 14 2 [.ag [.pv (iV (-1)),.ls 0 ([]:List Pt).length],.ag [.pv (iV (-1)),.ls 0 ([]:List Pt).length],qas 1 qap,.pv (qab 0 1)] [(0,0,qaa ([]:List Pt)),(1,0,qag qap)] (.tu [.ag [.pv (iV (-1)),.ls 2 ([]:List Pt).length],.one (.pv (iV 0))]) 1 [(2,0,qaa ([]:List Pt))]) (d3:Fn 13 1 [.ag [.pv (iV (-1)),.ls 0 ([]:List Pt).length],.pv (iV (7))] [(0,0,qaa ([]:List Pt))] (.tu [.ag [.pv (iV (-1)),.lq 1 3 0 0],.ag [.pv (iV (-1)),.ls 2 ([]:List Pt).length],.one (.pv (iV 0))]) 2 [(1,0,qaa ([]:List Pt)),(2,0,qaa ([]:List Pt))]) (d4:Fn 10 1 [.ag [.pv (iV 2),.ls 0 ([Pt.mk (5) (-1) (-1),Pt.mk (2) (-1) (0),Pt.mk (1) (-1) (1)]:List Pt).length]] [(0,0,qaa ([Pt.mk (5) (-1) (-1),Pt.mk (2) (-1) (0),Pt.mk (1) (-1) (1)]:List Pt))] (.tu [.one (.ls 1 ([1,2,5]:List Int).length),.one (.pv (iV 0))]) 1 [(1,0,.row 3 1 ([1,2,5]:List Int).length (ziV ([1,2,5]:List Int)))]) (q1:Fn 22 2 [.ag [.pv (iV (-1)),.ls 0 ([]:List Pt).length],.ag [.pv (iV (-1)),.ls 1 ([]:List Pt).length]] qqK (.pv (.bool true)) 0 []) (q2:Fn 22 2 [.ag [.pv (iV (-1)),.lq 0 3 0 0],.ag [.pv (iV (-1)),.ls 1 ([]:List Pt).length]] qqK (.pv (.bool true)) 0 []) (q3:Fn 23 2 [.ls 0 ([1,2,5]:List Int).length,.ls 1 ([1,2,5]:List Int).length] [(0,0,.row 3 1 ([1,2,5]:List Int).length (ziV ([1,2,5]:List Int))),(1,0,.row 3 1 ([1,2,5]:List Int).length (ziV ([1,2,5]:List Int)))] (.pv (.bool true)) 0 []) (hal:Pure Try.prog 24 #[] (.bool true)) :
 Fn 3 0 [] [] (.pv (.bool true)) 0 []:=
 qeR 1500 [] [.md,Cf w0 [],.lw,.lw,.lw,.lw,.lw,.lw,.lw,.lw,.lw,.lw,.lw,.ln false 0 1 26 3,.ln false 14 3 26 3,.ln false 14 7 26 3,Lf r0,.lw,Cf a1 [20],Cf hn [],Rf hat0,Cf a2 [23],Cf hg [],Cf a3 [26],.md,Cf hc [],Cf a4 [18,28],.md,Cf hg [],Rf hat2,Cf a5 [18,29],.md,Cf hg [],Rf hat0,Cf a6 [18,30],.md,Cf hg [],Cf a7 [18,31],Cf a8 [18],.md,Cf w1 [],Cf b1 [18,34,20],.md,Cf w2 [],Cf w3 [],Cf b2 [36,37,20],Cf w2 [],Cf w3 [],Cf hg [],Cf b3 [39,40,41],Cf w4 [],Cf w5 [],Cf hg [],Rf hat0,Cf b4 [43,44,45],Cf w6 [],Cf w7 [],Cf hg [],Rf hat0,Cf b5 [47,48,49],Cf w3 [],Cf w8 [],Cf hg [],Rf hat0,Cf b6 [51,52,53],Cf hc [],Cf d1 [55],.md,Cf hg [],Rf hat0,Cf d2 [15,56],Cf d3 [15],Cf d4 [18],.k,.k,Cf q1 [24,15],.k,.k,.k,.k,.k,.k,.k,.k,.k,.k,.k,.k,.k,.k,.k,Cf q1 [57,15],.k,Cf q2 [59,15],Cf q1 [60,15],.k,.lw,Cf q3 [63,64],Rf hal]
  tI (Co w0 [] 2 (Lo r0 [] (Ai (show (0:Int)≤65 from by decide) (Ai (Eq.refl (65:Int)) (Ai (show (65:Int)≤1000000 from by decide) (Co a1 [20] 22 (Co hn [] 23 (Ai hat0 (Co a2 [23] 24 (Co hg [] 26 (Co a3 [26] 27 (Co hc [] 28 (Co a4 [18,28] 29 (Co hg [] 29 (Ai hat2 (Co a5 [18,29] 30 (Co hg [] 30 (Ai hat0 (Co a6 [18,30] 31 (Co hg [] 31 (Co a7 [18,31] 32 (Co a8 [18] 32 (Co w1 [] 34 (Co b1 [18,34,20] 35 (Co w2 [] 36 (Co w3 [] 37 (Co b2 [36,37,20] 38 (Co w2 [] 39 (Co w3 [] 40 (Co hg [] 41 (Co b3 [39,40,41] 42 (Co w4 [] 43 (Co w5 [] 44 (Co hg [] 45 (Ai hat0 (Co b4 [43,44,45] 46 (Co w6 [] 47 (Co w7 [] 48 (Co hg [] 49 (Ai hat0 (Co b5 [47,48,49] 50 (Co w3 [] 51 (Co w8 [] 52 (Co hg [] 53 (Ai hat0 (Co b6 [51,52,53] 54 (Co hc [] 55 (Co d1 [55] 56 (Co hg [] 56 (Ai hat0 (Co d2 [15,56] 57 (Co d3 [15] 59 (Co d4 [18] 63 (Co q1 [24,15] 64 (Co q1 [57,15] 64 (Co q2 [59,15] 64 (Co q1 [60,15] 64 (Co q3 [63,64] 65 (Ai hal tI))))))))))))))))))))))))))))))))))))))))))))))))))))))))))) (by kernel_rfl)
end Go.Proofs.Ytalnjplghagbpaa

namespace Go.Proofs.Ytalnjplghagbpaa
set_option maxRecDepth 100000
open Go.RowKit
theorem qaG {l:List Pt} {z:Int} {p:Pt} (h:l[z.toNat]?=some p):qcJ (qam l) (0*3+z.toNat*3) [iV p.id]:=qcg h
theorem qhC {l:List Pt} {k:Nat} {p:Pt} (h:l[k]?=some p):qcJ (qam l) (0*3+k*3+1) [iV p.a]:=qbX (z:=(k:Int)) h
theorem qhU {l:List Pt} {k:Nat} {p:Pt} (h:l[k]?=some p):qcJ (qam l) (0*3+k*3+2) [iV p.b]:=qcf (z:=(k:Int)) h
theorem qgv (n:Nat):some (SV.row 3 1 n (qci [iV 0] n))=some (SV.row 3 1 n (ziV (List.replicate n 0))):=by rw[qkU]
theorem qgE:∀ (m:List Pt) (p:Pt),qam (m++[p])=qam m++[iV p.id,iV p.a,iV p.b]
 | [],_=>rfl
 | q::r,p=>congrArg (fun l=>iV q.id::iV q.a::iV q.b::l) (qgE r p)
abbrev qop (l:List Pt) (td:Int) (tn:Int):HpL:=[(1,0,.ls 0 l.length),(2,0,.pv (iV tn)),(2,1,.pv (iV td)),(0,0,qag l)]
abbrev qtL (hi:Int) (k:Nat) (z:Int):TmL:=[(3,.pv (iV hi)),(4,.pp 1 0),(5,.pp 2 0),(9,.pv (iV (z))),(10,.pv (iV (k:Int)))]
theorem qkw {z hi:Int} {l:List Pt} {k:Nat} {tn td:Int} (hlt:decide ((k:Int)<hi)=true) (h0:decide (z<0)=true) (hs:iV (IntKind.i64.wrap ((k:Int)+1))=iV (((k+1:Nat):Int))) {e:Exit} {tm2:TmL} {hp2:HpL}
 (r:Rl 1 1 110 0 35 3 ([(3,.pv (iV hi)),(4,.pp 1 0),(5,.pp 2 0),(9,.pv (iV (k:Int))),(10,.pv (iV ((k+1:Nat):Int)))]) (qop l td tn) e tm2 hp2):Rl 1 1 110 0 35 3 (qtL hi k z) (qop l td tn) e tm2 hp2:=
 RunsL.next [] 300 [.t true,.t true,Re hs]
  (Ro (Ai hlt (Ai h0 (Ai hs tI)))) r
theorem qpJ {z hi:Int} {l:List Pt} {p q:Pt} {k:Nat} {tn td:Int} (hlt:decide ((k:Int)<hi)=true) (h0:decide (z<0)=false) (hk:l[k]?=some p) (hin:0≤(k:Int)∧(k:Int)<(l.length:Int)) (hz:l[z.toNat]?=some q) (hinz:0≤z∧z<(l.length:Int)) (hle:Pure Try.prog 111 #[ptV p,ptV q,qab tn td] (.bool true)) (hs:iV (IntKind.i64.wrap ((k:Int)+1))=iV (((k+1:Nat):Int))) {e:Exit} {tm2:TmL} {hp2:HpL}
 (r:Rl 1 1 110 0 35 3 ([(3,.pv (iV hi)),(4,.pp 1 0),(5,.pp 2 0),(9,.pv (iV (k:Int))),(10,.pv (iV ((k+1:Nat):Int)))]) (qop l td tn) e tm2 hp2):Rl 1 1 110 0 35 3 (qtL hi k z) (qop l td tn) e tm2 hp2:=
 RunsL.next [] 300 [.t true,.t false,.r (ptV p),.r (ptV q),Rf hle,Re hs]
  (Ro (Ai hlt (Ai h0 (Ai hin (Ai (qa1 hk) (Ai hinz (Ai (qbm hz) (Ai hle (Ai hs tI))))))))) r
theorem qqx {z hi:Int} {l:List Pt} {p q:Pt} {k:Nat} {tn td:Int} (hlt:decide ((k:Int)<hi)=true) (h0:decide (z<0)=false) (hk:l[k]?=some p) (hin:0≤(k:Int)∧(k:Int)<(l.length:Int)) (hz:l[z.toNat]?=some q) (hinz:0≤z∧z<(l.length:Int)) (hle:Pure Try.prog 111 #[ptV p,ptV q,qab tn td] (.bool false)) (hs:iV (IntKind.i64.wrap ((k:Int)+1))=iV (((k+1:Nat):Int))) {e:Exit} {tm2:TmL} {hp2:HpL}
 (r:Rl 1 1 110 0 35 3 ([(3,.pv (iV hi)),(4,.pp 1 0),(5,.pp 2 0),(9,.pv (iV (z))),(10,.pv (iV ((k+1:Nat):Int)))]) (qop l td tn) e tm2 hp2):Rl 1 1 110 0 35 3 (qtL hi k z) (qop l td tn) e tm2 hp2:=
 RunsL.next [] 300 [.t true,.t false,.r (ptV p),.r (ptV q),Rf hle,Re hs]
  (Ro (Ai hlt (Ai h0 (Ai hin (Ai (qa1 hk) (Ai hinz (Ai (qbm hz) (Ai hle (Ai hs tI))))))))) r
theorem qqB {z hi:Int} {l:List Pt} {k:Nat} {tn td:Int} (hlt:decide ((k:Int)<hi)=false):Rl 1 1 110 0 35 3 (qtL hi k z) (qop l td tn) (.exit 0) ([(9,.pv (iV z))]) ([]):=
 RunsL.stop [] 300 [.t false] (fun h=>by cases h)
  (Ro (Ai hlt tI))
theorem qhr {z hi:Int} {l:List Pt} {n:Nat} {tn td:Int} (r0:Rl 1 1 110 0 35 3 ([(3,.pv (iV hi)),(4,.pp 1 0),(5,.pp 2 0),(9,.pv (iV (-1))),(10,.pv (iV (n:Int)))]) (qop l td tn) (.exit 0) ([(9,.pv (iV z))]) ([])) :
 Fn 110 1 [qas 0 l,.pv (qab tn td),.pv (iV (n:Int)),.pv (iV (hi))] [(0,0,qag l)] (.pv (iV (z))) 0 []:=
 Fz [] [Lf r0]
  tI (Lo r0 [] tI)
abbrev qqQ (l:List Pt) (rt:Int):HpL:=[(1,0,.pv (iV rt)),(1,1,.ls 0 l.length),(0,0,qaa l)]
abbrev quo (i0:Int) (k:Nat) (z:Int):TmL:=[(1,.pv (iV z)),(2,.pp 1 0),(5,.pv (iV (k:Int))),(6,.pv (iV (i0)))]
theorem qpX {rt z i0:Int} {l:List Pt} {p:Pt} {k:Nat} (hk:l[i0.toNat]?=some p) (hin:0≤i0∧i0<(l.length:Int)) (hne:(p.id !=z)=false):Rl 1 1 69 0 40 2 (quo i0 k z) (qqQ l rt) (.exit 0) ([(5,.pv (iV (k:Int)))]) ([]):=
 RunsL.stop [] 300 [.r (iV p.id),.t false] (fun h=>by cases h)
  (Ro (Ai hin (Ai (qaG hk) (Ai hne tI))))
theorem qt0 {rt z i0:Int} {l:List Pt} {p:Pt} {k:Nat} (hk:l[i0.toNat]?=some p) (hin:0≤i0∧i0<(l.length:Int)) (hne:(p.id !=z)=true) (hlt:decide (z<p.id)=true) (hs:iV (IntKind.i64.wrap ((k:Int)+1))=iV (((k+1:Nat):Int))) {e:Exit} {tm2:TmL} {hp2:HpL}
 (r:Rl 1 1 69 0 40 2 ([(1,.pv (iV z)),(2,.pp 1 0),(5,.pv (iV ((k+1:Nat):Int))),(6,.pv (iV (p.a)))]) (qqQ l rt) e tm2 hp2):Rl 1 1 69 0 40 2 (quo i0 k z) (qqQ l rt) e tm2 hp2:=
 RunsL.next [] 300 [.r (iV p.id),.t true,.r (iV p.id),.t true,.r (iV p.a),Re hs]
  (Ro (Ai hin (Ai (qaG hk) (Ai hne (Ai hin (Ai (qaG hk) (Ai hlt (Ai hin (Ai (qbX hk) (Ai hs tI)))))))))) r
theorem quZ {rt z i0:Int} {l:List Pt} {p:Pt} {k:Nat} (hk:l[i0.toNat]?=some p) (hin:0≤i0∧i0<(l.length:Int)) (hne:(p.id !=z)=true) (hlt:decide (z<p.id)=false) (hs:iV (IntKind.i64.wrap ((k:Int)+1))=iV (((k+1:Nat):Int))) {e:Exit} {tm2:TmL} {hp2:HpL}
 (r:Rl 1 1 69 0 40 2 ([(1,.pv (iV z)),(2,.pp 1 0),(5,.pv (iV ((k+1:Nat):Int))),(6,.pv (iV (p.b)))]) (qqQ l rt) e tm2 hp2):Rl 1 1 69 0 40 2 (quo i0 k z) (qqQ l rt) e tm2 hp2:=
 RunsL.next [] 300 [.r (iV p.id),.t true,.r (iV p.id),.t false,.r (iV p.b),Re hs]
  (Ro (Ai hin (Ai (qaG hk) (Ai hne (Ai hin (Ai (qaG hk) (Ai hlt (Ai hin (Ai (qcf hk) (Ai hs tI)))))))))) r
theorem qly {rt z:Int} {l:List Pt} {k:Nat} (r0:Rl 1 1 69 0 40 2 ([(1,.pv (iV z)),(2,.pp 1 0),(5,.pv (iV ((0:Nat):Int))),(6,.pv (iV (rt)))]) (qqQ l rt) (.exit 0) ([(5,.pv (iV (k:Int)))]) ([])) :
 Fn 69 1 [trS 0 rt l,.pv (iV (z))] [(0,0,qaa l)] (.pv (iV (k:Int))) 0 []:=
 Fz [] [Lf r0]
  tI (Lo r0 [] tI)
abbrev qf3 (g:List Int) (l:List Pt) (rt:Int):HpL:=[(1,0,.pv (iV rt)),(1,1,.ls 0 l.length),(0,0,qaa l),(2,0,.row 3 1 l.length (ziV g))]
abbrev qsr (k:Nat) (l:List Pt):TmL:=[(1,.pp 1 0),(3,.ls 2 l.length),(4,.pv (iV (k:Int)))]
abbrev qtD (k:Nat) (l:List Pt):TmL:=[(1,.pp 1 0),(3,.ls 2 l.length),(4,.pv (iV ((k+1:Nat):Int)))]
theorem qrd {rt:Int} {l:List Pt} {p:Pt} {k:Nat} {y1 y2 e1 e2:Int} {g:List Int} (hlt:decide ((k:Int)<(l.length:Int))=true) (hk:l[k]?=some p) (hin:0≤(k:Int)∧(k:Int)<(l.length:Int)) (ha:decide (p.a≥0)=true) (hia:0≤p.a∧p.a<(l.length:Int)) (hga:g[p.a.toNat]?=some y1) (hgl:p.a.toNat<g.length) (hy1:iV (IntKind.i64.wrap (y1+1))=iV (e1)) (hb:decide (p.b≥0)=true) (hib:0≤p.b∧p.b<(l.length:Int)) (hgb:(g.set p.a.toNat e1)[p.b.toNat]?=some y2) (hgm:p.b.toNat<(g.set p.a.toNat e1).length) (hy2:iV (IntKind.i64.wrap (y2+1))=iV (e2)) (hs:iV (IntKind.i64.wrap ((k:Int)+1))=iV (((k+1:Nat):Int))) {e:Exit} {tm2:TmL} {hp2:HpL}
 (r:Rl 1 1 71 0 77 3 (qtD k l) ([(1,0,.pv (iV rt)),(1,1,.ls 0 l.length),(0,0,qaa l),(2,0,.row 3 1 l.length (ziV ((g.set p.a.toNat e1).set p.b.toNat e2)))]) e tm2 hp2):Rl 1 1 71 0 77 3 (qsr k l) (qf3 g l rt) e tm2 hp2:=
 RunsL.next [] 300 [.t true,.r (iV p.a),.t true,.r (iV y1),Re hy1,.w (ziV (g.set p.a.toNat e1)),.r (iV p.b),.t true,.r (iV y2),Re hy2,.w (ziV ((g.set p.a.toNat e1).set p.b.toNat e2)),Re hs]
  (Ro (Ai hlt (Ai hin (Ai (qhC hk) (Ai ha (Ai hia (Ai (qkM hga) (Ai hy1 (Ai hia (Ai (qqH g p.a.toNat e1 hgl) (Ai (qee g p.a.toNat hgl) (Ai hin (Ai (qhU hk) (Ai hb (Ai hib (Ai (qkM hgb) (Ai hy2 (Ai hib (Ai (qqH (g.set p.a.toNat e1) p.b.toNat e2 hgm) (Ai (qee (g.set p.a.toNat e1) p.b.toNat hgm) (Ai hs tI))))))))))))))))))))) r
theorem qqV {rt:Int} {l:List Pt} {p:Pt} {k:Nat} {y1 e1:Int} {g:List Int} (hlt:decide ((k:Int)<(l.length:Int))=true) (hk:l[k]?=some p) (hin:0≤(k:Int)∧(k:Int)<(l.length:Int)) (ha:decide (p.a≥0)=true) (hia:0≤p.a∧p.a<(l.length:Int)) (hga:g[p.a.toNat]?=some y1) (hgl:p.a.toNat<g.length) (hy1:iV (IntKind.i64.wrap (y1+1))=iV (e1)) (hb:decide (p.b≥0)=false) (hs:iV (IntKind.i64.wrap ((k:Int)+1))=iV (((k+1:Nat):Int))) {e:Exit} {tm2:TmL} {hp2:HpL}
 (r:Rl 1 1 71 0 77 3 (qtD k l) ([(1,0,.pv (iV rt)),(1,1,.ls 0 l.length),(0,0,qaa l),(2,0,.row 3 1 l.length (ziV (g.set p.a.toNat e1)))]) e tm2 hp2):Rl 1 1 71 0 77 3 (qsr k l) (qf3 g l rt) e tm2 hp2:=
 RunsL.next [] 300 [.t true,.r (iV p.a),.t true,.r (iV y1),Re hy1,.w (ziV (g.set p.a.toNat e1)),.r (iV p.b),.t false,Re hs]
  (Ro (Ai hlt (Ai hin (Ai (qhC hk) (Ai ha (Ai hia (Ai (qkM hga) (Ai hy1 (Ai hia (Ai (qqH g p.a.toNat e1 hgl) (Ai (qee g p.a.toNat hgl) (Ai hin (Ai (qhU hk) (Ai hb (Ai hs tI))))))))))))))) r
theorem qsY {rt:Int} {l:List Pt} {p:Pt} {k:Nat} {y2 e2:Int} {g:List Int} (hlt:decide ((k:Int)<(l.length:Int))=true) (hk:l[k]?=some p) (hin:0≤(k:Int)∧(k:Int)<(l.length:Int)) (ha:decide (p.a≥0)=false) (hb:decide (p.b≥0)=true) (hib:0≤p.b∧p.b<(l.length:Int)) (hgb:g[p.b.toNat]?=some y2) (hgm:p.b.toNat<g.length) (hy2:iV (IntKind.i64.wrap (y2+1))=iV (e2)) (hs:iV (IntKind.i64.wrap ((k:Int)+1))=iV (((k+1:Nat):Int))) {e:Exit} {tm2:TmL} {hp2:HpL}
 (r:Rl 1 1 71 0 77 3 (qtD k l) ([(1,0,.pv (iV rt)),(1,1,.ls 0 l.length),(0,0,qaa l),(2,0,.row 3 1 l.length (ziV (g.set p.b.toNat e2)))]) e tm2 hp2):Rl 1 1 71 0 77 3 (qsr k l) (qf3 g l rt) e tm2 hp2:=
 RunsL.next [] 300 [.t true,.r (iV p.a),.t false,.r (iV p.b),.t true,.r (iV y2),Re hy2,.w (ziV (g.set p.b.toNat e2)),Re hs]
  (Ro (Ai hlt (Ai hin (Ai (qhC hk) (Ai ha (Ai hin (Ai (qhU hk) (Ai hb (Ai hib (Ai (qkM hgb) (Ai hy2 (Ai hib (Ai (qqH g p.b.toNat e2 hgm) (Ai (qee g p.b.toNat hgm) (Ai hs tI))))))))))))))) r
theorem qr8 {rt:Int} {l:List Pt} {p:Pt} {k:Nat} {g:List Int} (hlt:decide ((k:Int)<(l.length:Int))=true) (hk:l[k]?=some p) (hin:0≤(k:Int)∧(k:Int)<(l.length:Int)) (ha:decide (p.a≥0)=false) (hb:decide (p.b≥0)=false) (hs:iV (IntKind.i64.wrap ((k:Int)+1))=iV (((k+1:Nat):Int))) {e:Exit} {tm2:TmL} {hp2:HpL}
 (r:Rl 1 1 71 0 77 3 (qtD k l) (qf3 g l rt) e tm2 hp2):Rl 1 1 71 0 77 3 (qsr k l) (qf3 g l rt) e tm2 hp2:=
 RunsL.next [] 300 [.t true,.r (iV p.a),.t false,.r (iV p.b),.t false,Re hs]
  (Ro (Ai hlt (Ai hin (Ai (qhC hk) (Ai ha (Ai hin (Ai (qhU hk) (Ai hb (Ai hs tI))))))))) r
theorem qpj {rt:Int} {l:List Pt} {k:Nat} {g:List Int} (hlt:decide ((k:Int)<(l.length:Int))=false):Rl 1 1 71 0 77 3 (qsr k l) (qf3 g l rt) (.exit 0) ([(1,.pp 1 0),(3,.ls 2 l.length)]) (qf3 g l rt):=
 RunsL.stop [] 300 [.t false] (fun h=>by cases h)
  (Ro (Ai hlt tI))
abbrev qtf (k:Nat) (l:List Pt):TmL:=[(1,.pp 1 0),(3,.ls 2 l.length),(7,.pv (iV (k:Int)))]
theorem qnF {rt x:Int} {l:List Pt} {k:Nat} {g:List Int} (hlt:decide ((k:Int)<(l.length:Int))=true) (hr:((k:Int)==rt)=true) (hg:g[k]?=some x) (hin:0≤(k:Int)∧(k:Int)<(l.length:Int)) (h0:(x !=0)=false) (hr2:((k:Int) !=rt)=false) (hs:iV (IntKind.i64.wrap ((k:Int)+1))=iV (((k+1:Nat):Int))) {e:Exit} {tm2:TmL} {hp2:HpL}
 (r:Rl 1 1 71 1 77 3 ([(1,.pp 1 0),(3,.ls 2 l.length),(7,.pv (iV ((k+1:Nat):Int)))]) (qf3 g l rt) e tm2 hp2):Rl 1 1 71 1 77 3 (qtf k l) (qf3 g l rt) e tm2 hp2:=
 RunsL.next [] 300 [.t true,.t true,.r (iV x),.t false,.t false,Re hs]
  (Ro (Ai hlt (Ai hr (Ai hin (Ai (qgd hg) (Ai h0 (Ai hr2 (Ai hs tI)))))))) r
theorem qmR {rt x:Int} {l:List Pt} {k:Nat} {g:List Int} (hlt:decide ((k:Int)<(l.length:Int))=true) (hr:((k:Int)==rt)=false) (hg:g[k]?=some x) (hin:0≤(k:Int)∧(k:Int)<(l.length:Int)) (hr2:((k:Int) !=rt)=true) (h1:(x !=1)=false) (hs:iV (IntKind.i64.wrap ((k:Int)+1))=iV (((k+1:Nat):Int))) {e:Exit} {tm2:TmL} {hp2:HpL}
 (r:Rl 1 1 71 1 77 3 ([(1,.pp 1 0),(3,.ls 2 l.length),(7,.pv (iV ((k+1:Nat):Int)))]) (qf3 g l rt) e tm2 hp2):Rl 1 1 71 1 77 3 (qtf k l) (qf3 g l rt) e tm2 hp2:=
 RunsL.next [] 300 [.t true,.t false,.t true,.r (iV x),.t false,Re hs]
  (Ro (Ai hlt (Ai hr (Ai hr2 (Ai hin (Ai (qgd hg) (Ai h1 (Ai hs tI)))))))) r
theorem qke {rt x:Int} {l:List Pt} {k:Nat} {g:List Int} (hlt:decide ((k:Int)<(l.length:Int))=true) (hr:((k:Int)==rt)=true) (hg:g[k]?=some x) (hin:0≤(k:Int)∧(k:Int)<(l.length:Int)) (h0:(x !=0)=true):Rl 1 1 71 1 77 3 (qtf k l) (qf3 g l rt) (.ret) ([(2,.pv (.bool false))]) ([]):=
 RunsL.stop [] 300 [.t true,.t true,.r (iV x),.t true] (fun h=>by cases h)
  (Ro (Ai hlt (Ai hr (Ai hin (Ai (qgd hg) (Ai h0 tI))))))
theorem qi4 {rt x:Int} {l:List Pt} {k:Nat} {g:List Int} (hlt:decide ((k:Int)<(l.length:Int))=true) (hr:((k:Int)==rt)=false) (hg:g[k]?=some x) (hin:0≤(k:Int)∧(k:Int)<(l.length:Int)) (hr2:((k:Int) !=rt)=true) (h1:(x !=1)=true):Rl 1 1 71 1 77 3 (qtf k l) (qf3 g l rt) (.ret) ([(2,.pv (.bool false))]) ([]):=
 RunsL.stop [] 300 [.t true,.t false,.t true,.r (iV x),.t true] (fun h=>by cases h)
  (Ro (Ai hlt (Ai hr (Ai hr2 (Ai hin (Ai (qgd hg) (Ai h1 tI)))))))
theorem qln {rt:Int} {l:List Pt} {k:Nat} {g:List Int} (hlt:decide ((k:Int)<(l.length:Int))=false):Rl 1 1 71 1 77 3 (qtf k l) (qf3 g l rt) (.exit 2) ([]) ([]):=
 RunsL.stop [] 300 [.t false] (fun h=>by cases h)
  (Ro (Ai hlt tI))
abbrev qvx (g:List Int) (l:List Pt) (rt:Int):Prop:=Rl 1 1 71 0 77 3 ([(1,.pp 1 0),(3,.ls 2 l.length),(4,.pv (iV ((0:Nat):Int)))]) ([(1,0,.pv (iV rt)),(1,1,.ls 0 l.length),(0,0,qaa l),(2,0,.row 3 1 l.length (ziV (List.replicate l.length 0)))]) (.exit 0) ([(1,.pp 1 0),(3,.ls 2 l.length)]) (qf3 g l rt)
theorem qqs {rt:Int} {l:List Pt} {g:List Int} (n0:0≤(l.length:Int)) (n1:(l.length:Int)≤1000000) (r0:qvx g l rt) (r1:Rl 1 1 71 1 77 3 ([(1,.pp 1 0),(3,.ls 2 l.length),(7,.pv (iV ((0:Nat):Int)))]) (qf3 g l rt) (.exit 2) ([]) ([])) :
 Fn 71 1 [trS 0 rt l] [(0,0,qaa l)] (.pv (.bool true)) 0 []:=
 Fz [] [Lf r0,Lf r1]
  tI (Ai n0 (Ai (Eq.refl (l.length:Int)) (Ai n1 (Ai (Lt r0 []) (Ai (Ai (Er (SV.pv (iV rt))) (Ai (Er (SV.ls 0 l.length)) (Ai (Er (qaa l)) (Ai (qgv l.length) tI)))) (Ai r0 (Lo r1 [] tI)))))))
theorem qs6 {rt:Int} {l:List Pt} {g:List Int} (n0:0≤(l.length:Int)) (n1:(l.length:Int)≤1000000) (r0:qvx g l rt) (r1:Rl 1 1 71 1 77 3 ([(1,.pp 1 0),(3,.ls 2 l.length),(7,.pv (iV ((0:Nat):Int)))]) (qf3 g l rt) (.ret) ([(2,.pv (.bool false))]) ([])) :
 Fn 71 1 [trS 0 rt l] [(0,0,qaa l)] (.pv (.bool false)) 0 []:=
 Fz [] [Lf r0,Lf r1]
  tI (Ai n0 (Ai (Eq.refl (l.length:Int)) (Ai n1 (Ai (Lt r0 []) (Ai (Ai (Er (SV.pv (iV rt))) (Ai (Er (SV.ls 0 l.length)) (Ai (Er (qaa l)) (Ai (qgv l.length) tI)))) (Ai r0 (Lo r1 [] tI)))))))
end Go.Proofs.Ytalnjplghagbpaa

namespace Go.Proofs.Ytalnjplghagbpaa
set_option maxRecDepth 100000
open Go.RowKit
section
variable {rt:Int} {l:List Pt}
theorem qth {T:Sh Nat} {z:Int} (hr:Rep l rt T) (hu:(idT l T).list.Pairwise (· < ·)) (hz:z∈(idT l T).list) (hn:T.list.length≤1000000):Fn 69 1 [trS 0 rt l,.pv (iV z)] [(0,0,qaa l)] (.pv (iV ((Sh.dep z (idT l T):Nat):Int))) 0 []:=by
 have run:∀ (S:Sh Nat) (i:Int) (k:Nat),Rep l i S→(idT l S).list.Pairwise (· < ·)→z∈(idT l S).list→k+S.list.length≤1000000→
  Rl 1 1 69 0 40 2 [(1,.pv (iV z)),(2,.pp 1 0),(5,.pv (iV (k:Int))),(6,.pv (iV i))] [(1,0,.pv (iV rt)),(1,1,.ls 0 l.length),(0,0,qaa l)] (.exit 0) [(5,.pv (iV ((k+Sh.dep z (idT l S):Nat):Int)))] []:=by
  intro S
  induction S with
  | nil=>intro i k _ _ h;cases h
  | node a j b ia ib=>
   intro i k ⟨hi,p,hp,a1,a2⟩ hu hz hk
   subst hi
   have hjl:=qak hp
   have e1:idN l j=p.id:=qaz hp
   have eT:idT l (.node a j b)=.node (idT l a) p.id (idT l b):=by show Sh.node _ (idN l j) _=_;rw[e1];rfl
   have hlen:(Sh.node a j b).list.length=a.list.length+(b.list.length+1):=by show (a.list++j::b.list).length=_;rw[List.length_append,List.length_cons]
   rw[eT] at hu hz ⊢
   obtain⟨s1,s2,s3,s4⟩:=Sh.up_split hu
   have hin:0≤(j:Int)∧(j:Int)<(l.length:Int):=⟨by omega,by omega⟩
   unfold Sh.dep
   by_cases c1:z=p.id
   ·rw[if_pos c1]
    exact qpX (hk:=hp) (hin:=hin) (hne:=by simp[c1])
   ·rw[if_neg c1]
    by_cases c2:z<p.id
    ·rw[if_pos c2]
     have hz1:z∈(idT l a).list:=by
      rcases List.mem_append.1 hz with h | h
      ·exact h
      ·rcases List.mem_cons.1 h with h | h
       ·exact (c1 h).elim
       ·have:=s4 z h;omega
     have r:=ia p.a (k+1) a1 s1 hz1 (by omega)
     rw[show k+(Sh.dep z (idT l a)+1)=k+1+Sh.dep z (idT l a) by omega]
     exact qt0 (hk:=hp) (hin:=hin) (hne:=by simp;omega) (hlt:=dt c2) (hs:=qah (by omega)) r
    ·rw[if_neg c2]
     have hz1:z∈(idT l b).list:=by
      rcases List.mem_append.1 hz with h | h
      ·have:=s3 z h;omega
      ·rcases List.mem_cons.1 h with h | h
       ·exact (c1 h).elim
       ·exact h
     have r:=ib p.b (k+1) a2 s2 hz1 (by omega)
     rw[show k+(Sh.dep z (idT l b)+1)=k+1+Sh.dep z (idT l b) by omega]
     exact quZ (hk:=hp) (hin:=hin) (hne:=by simp;omega) (hlt:=df c2) (hs:=qah (by omega)) r
 have:=run T rt 0 hr hu hz (by omega)
 rw[Nat.zero_add] at this
 exact qly (r0:=this)
def BestI (l:List Pt) (tn td:Int) (n k:Nat) (z:Int):Prop:=(k≤n∧z = -1)∨(∃ b:Nat,z=(b:Int)∧n≤b∧b<k∧∀ j,n≤j→j<k→j≠b→ld tn td (ndT l b) (ndT l j)=true)
variable {tn td:Int}
theorem BestI.uniq {n k:Nat} {z y:Int} (h:BestI l tn td n k z) (h':BestI l tn td n k y):z=y:=by
 rcases h with ⟨h1,rfl⟩ | ⟨b,rfl,h2,h3,h4⟩
 ·rcases h' with ⟨_,rfl⟩ | ⟨c,rfl,k2,k3,_⟩
  ·rfl
  ·omega
 ·rcases h' with ⟨k1,_⟩ | ⟨c,rfl,k2,k3,k4⟩
  ·omega
  ·by_cases e:b=c
   ·rw[e]
   ·have a1:=h4 c k2 k3 fun k=>e k.symm
    have a2:=k4 b h2 h3 e
    rw[qe6 a1] at a2
    cases a2
theorem qvt (htn:I64 tn) (htd:I64 td) (hs:Val l) {n hi:Nat} (hh:hi≤l.length) {y:Int} (hy:BestI l tn td n hi y):Fn 110 1 [qas 0 l,.pv (qab tn td),.pv (iV (n:Int)),.pv (iV (hi:Int))] [(0,0,qag l)] (.pv (iV y)) 0 []:=by
 have hsl:=hs.len
 have run:∀ (e k:Nat) (z:Int),k+e=max n hi→n≤k→BestI l tn td n k z→
  Rl 1 1 110 0 35 3 [(3,.pv (iV (hi:Int))),(4,.pp 1 0),(5,.pp 2 0),(9,.pv (iV z)),(10,.pv (iV (k:Int)))] [(1,0,.ls 0 l.length),(2,0,.pv (iV tn)),(2,1,.pv (iV td)),(0,0,qag l)] (.exit 0) [(9,.pv (iV y))] []:=by
  intro e
  induction e with
  | zero=>
   intro k z hk hn hb
   have hb':BestI l tn td n hi z:=by
    rcases hb with ⟨h1,h2⟩ | ⟨b,h1,h2,h3,h4⟩
    ·exact Or.inl ⟨by omega,h2⟩
    ·exact Or.inr ⟨b,h1,h2,by omega,fun j j1 j2=>h4 j j1 (by omega)⟩
   rw[hy.uniq hb']
   exact qqB (hlt:=df (by omega))
  | succ e ih=>
   intro k z hk hn hb
   have hkh:k<hi:=by omega
   have hkl:k<l.length:=by omega
   rcases hb with ⟨h1,rfl⟩ | ⟨b,rfl,h2,h3,h4⟩
   ·exact qkw (hlt:=dt (by omega)) (h0:=by decide) (hs:=qah (by omega)) (ih (k+1) _ (by omega) (by omega) (Or.inr ⟨k,rfl,by omega,by omega,fun j j1 j2 j3=>by omega⟩))
   ·have hp:=qat (n:=l) hkl
    have hq:=qat (n:=l) (k:=b) (by omega)
    have hne:(ndT l b).id≠(ndT l k).id:=by have:=hs.up.mono h3 hq hp;omega
    by_cases hw:ld tn td (ndT l k) (ndT l b)=true
    ·exact qpJ (z:=(b:Int)) (hlt:=dt (by omega)) (h0:=df (by omega)) (hk:=hp) (hin:=⟨by omega,by omega⟩) (hz:=hq) (hinz:=⟨by omega,by omega⟩) (hle:=by rw[← hw];exact qhj htn htd (hs.ok _ (List.mem_of_getElem? hp)) (hs.ok _ (List.mem_of_getElem? hq))) (hs:=qah (by omega))
      (ih (k+1) _ (by omega) (by omega) (Or.inr ⟨k,rfl,by omega,by omega,fun j j1 j2 j3=>by
       by_cases ej:j=b
       ·rw[ej];exact hw
       ·exact qdz hw (h4 j j1 (by omega) ej)⟩))
    ·have hw':ld tn td (ndT l k) (ndT l b)=false:=by simpa using hw
     exact qqx (z:=(b:Int)) (hlt:=dt (by omega)) (h0:=df (by omega)) (hk:=hp) (hin:=⟨by omega,by omega⟩) (hz:=hq) (hinz:=⟨by omega,by omega⟩) (hle:=by rw[← hw'];exact qhj htn htd (hs.ok _ (List.mem_of_getElem? hp)) (hs.ok _ (List.mem_of_getElem? hq))) (hs:=qah (by omega))
      (ih (k+1) _ (by omega) (by omega) (Or.inr ⟨b,rfl,h2,by omega,fun j j1 j2 j3=>by
       by_cases ej:j=k
       ·rw[ej];exact qkb (fun k=>hne k.symm) hw'
       ·exact h4 j j1 (by omega) j3⟩))
 rcases Nat.le_total n hi with hle | hle
 ·exact qhr (r0:=run (hi-n) n (-1) (by omega) (Nat.le_refl _) (Or.inl ⟨Nat.le_refl _,rfl⟩))
 ·exact qhr (r0:=run 0 n (-1) (by omega) (Nat.le_refl _) (Or.inl ⟨Nat.le_refl _,rfl⟩))
end
end Go.Proofs.Ytalnjplghagbpaa

namespace Go.Proofs.Ytalnjplghagbpaa
set_option maxRecDepth 100000
open Go.RowKit
def cK (l:List Pt) (k v:Nat):Nat:=((List.range k).map fun u=>lk l u v).sum
theorem qkc (l:List Pt) (k v:Nat):cK l (k+1) v=cK l k v+lk l k v:=by
 unfold cK
 rw[List.range_succ,List.map_append,List.sum_append]
 simp
theorem qqY (l:List Pt) (u:Nat) (v:Int):lk l u v≤2:=by
 unfold lk
 split
 ·split<;>split<;>omega
 ·omega
theorem qrk (l:List Pt) (v:Nat):∀ k,cK l k v≤2*k
 | 0=>Nat.le_refl _
 | k+1=>by rw[qkc];have:=qrk l v k;have:=qqY l k v;omega
def gK (l:List Pt) (k:Nat):List Int:=(List.range l.length).map fun v=>(cK l k v:Int)
theorem qfU (l:List Pt) (k:Nat):(gK l k).length=l.length:=by unfold gK;rw[List.length_map,List.length_range]
theorem qe5 (l:List Pt) (k:Nat) {v:Nat} (h:v<l.length):(gK l k)[v]?=some (cK l k v:Int):=by
 unfold gK;rw[List.getElem?_map,List.getElem?_range h];rfl
theorem qqr (l:List Pt):gK l 0=List.replicate l.length 0:=by
 refine List.ext_getElem? fun v=>?_
 rcases Nat.lt_or_ge v l.length with h | h
 ·rw[qe5 l 0 h,List.getElem?_replicate,if_pos h];rfl
 ·rw[List.getElem?_eq_none (by rw[qfU];exact h),List.getElem?_eq_none (by rw[List.length_replicate];exact h)]
def qe0 (g:List Int) (z:Int):List Int:=if 0≤z then g.set z.toNat (g.getD z.toNat 0+1) else g
theorem qfi (g:List Int) (z:Int):(qe0 g z).length=g.length:=by unfold qe0;split<;>simp
theorem qg0 {g:List Int} {z:Int} {v:Nat} (h:v<g.length):(qe0 g z)[v]?=some (g.getD v 0+if z=(v:Int) then 1 else 0):=by
 have e:g[v]?=some (g.getD v 0):=by rw[List.getD_eq_getElem?_getD,List.getElem?_eq_getElem h];rfl
 unfold qe0
 by_cases hz:0≤z
 ·rw[if_pos hz,List.getElem?_set]
  by_cases ev:z.toNat=v
  ·rw[if_pos ev,if_pos (by omega),if_pos (by omega),ev]
  ·rw[if_neg ev,if_neg (by omega),e];simp
 ·rw[if_neg hz,if_neg (by omega),e];simp
theorem qqE {l:List Pt} {k:Nat} {p:Pt} (hp:l[k]?=some p):gK l (k+1)=qe0 (qe0 (gK l k) p.a) p.b:=by
 refine List.ext_getElem? fun v=>?_
 rcases Nat.lt_or_ge v l.length with h | h
 ·have h1:v<(gK l k).length:=by rw[qfU];exact h
  have h2:v<(qe0 (gK l k) p.a).length:=by rw[qfi];exact h1
  rw[qe5 l (k+1) h,qg0 h2,List.getD_eq_getElem?_getD,qg0 h1,List.getD_eq_getElem?_getD,qe5 l k h,qkc]
  have e:lk l k v=(if p.a=(v:Int) then 1 else 0)+(if p.b=(v:Int) then 1 else 0):=by unfold lk;rw[hp]
  rw[e]
  simp only[Option.getD_some]
  split<;>split<;>simp<;>omega
 ·rw[List.getElem?_eq_none (by rw[qfU];exact h),List.getElem?_eq_none (by rw[qfi,qfi,qfU];exact h)]
section
variable {rt:Int} {l:List Pt}
abbrev onT (n k:Nat):List (Nat×SV):=[(1,.pp 1 0),(3,.ls 2 n),(4,.pv (iV (k:Int)))]
abbrev quF (n k:Nat):List (Nat×SV):=[(1,.pp 1 0),(3,.ls 2 n),(7,.pv (iV (k:Int)))]
abbrev onH (rt:Int) (l:List Pt) (g:List Int):List (Nat×Nat×SV):=[(1,0,.pv (iV rt)),(1,1,.ls 0 l.length),(0,0,qaa l),(2,0,.row 3 1 l.length (ziV g))]
theorem qnw (hL:Lnk ⟨rt,l⟩) (hn:l.length≤1000000) {k:Nat} {p:Pt} (hp:l[k]?=some p) {e:Exit} {tm2:TmL} {hp2:HpL}
 (r:Rl 1 1 71 0 77 3 (onT l.length (k+1)) (onH rt l (gK l (k+1))) e tm2 hp2):Rl 1 1 71 0 77 3 (onT l.length k) (onH rt l (gK l k)) e tm2 hp2:=by
 have hkl:=qak hp
 obtain⟨⟨a1,a2⟩,b1,b2⟩:=hL p (List.mem_of_getElem? hp)
 have a2':p.a<(l.length:Int):=a2
 have b2':p.b<(l.length:Int):=b2
 have hin:0≤(k:Int)∧(k:Int)<(l.length:Int):=⟨by omega,by omega⟩
 have gl:=qfU l k
 have bnd:∀ v,cK l k v≤2000000:=fun v=>by have:=qrk l v k;omega
 rw[qqE hp] at r
 have gd:∀ v,v<l.length→(gK l k).getD v 0=(cK l k v:Int):=fun v hv=>by rw[List.getD_eq_getElem?_getD,qe5 l k hv];rfl
 by_cases ha:0≤p.a
 ·have hal:p.a.toNat<l.length:=by omega
  have ea:qe0 (gK l k) p.a=(gK l k).set p.a.toNat ((cK l k p.a.toNat:Int)+1):=by unfold qe0;rw[if_pos ha,gd _ hal]
  by_cases hb:0≤p.b
  ·have hbl:p.b.toNat<l.length:=by omega
   have h2:p.b.toNat<((gK l k).set p.a.toNat ((cK l k p.a.toNat:Int)+1)).length:=by rw[List.length_set,gl];exact hbl
   have hv2:(((gK l k).set p.a.toNat ((cK l k p.a.toNat:Int)+1)))[p.b.toNat]?=some (((gK l k).set p.a.toNat ((cK l k p.a.toNat:Int)+1)).getD p.b.toNat 0):=by rw[List.getD_eq_getElem?_getD,List.getElem?_eq_getElem h2];rfl
   have eb:qe0 ((gK l k).set p.a.toNat ((cK l k p.a.toNat:Int)+1)) p.b=((gK l k).set p.a.toNat ((cK l k p.a.toNat:Int)+1)).set p.b.toNat (((gK l k).set p.a.toNat ((cK l k p.a.toNat:Int)+1)).getD p.b.toNat 0+1):=by
    unfold qe0;rw[if_pos hb]
   have small : -1≤((gK l k).set p.a.toNat ((cK l k p.a.toNat:Int)+1)).getD p.b.toNat 0∧((gK l k).set p.a.toNat ((cK l k p.a.toNat:Int)+1)).getD p.b.toNat 0≤3000000:=by
    rw[← ea,List.getD_eq_getElem?_getD,qg0 (by rw[gl];exact hbl),gd _ hbl]
    simp only[Option.getD_some]
    have:=bnd p.b.toNat
    split<;>omega
   rw[ea,eb] at r
   exact qrd (hlt:=dt (by omega)) (hk:=hp) (hin:=hin) (ha:=dt (by omega)) (hia:=⟨ha,a2'⟩) (hga:=qe5 l k hal) (hgl:=by rw[gl];exact hal) (hy1:=qij (by omega) (by have:=bnd p.a.toNat;omega)) (hb:=dt (by omega)) (hib:=⟨hb,b2'⟩) (hgb:=hv2) (hgm:=h2) (hy2:=qij (by omega) (by omega)) (hs:=qah (by omega)) r
  ·have eb:∀ g,qe0 g p.b=g:=fun g=>by unfold qe0;rw[if_neg hb]
   rw[ea,eb] at r
   exact qqV (hlt:=dt (by omega)) (hk:=hp) (hin:=hin) (ha:=dt (by omega)) (hia:=⟨ha,a2'⟩) (hga:=qe5 l k hal) (hgl:=by rw[gl];exact hal) (hy1:=qij (by omega) (by have:=bnd p.a.toNat;omega)) (hb:=df (by omega)) (hs:=qah (by omega)) r
 ·have ea:qe0 (gK l k) p.a=gK l k:=by unfold qe0;rw[if_neg ha]
  rw[ea] at r
  by_cases hb:0≤p.b
  ·have hbl:p.b.toNat<l.length:=by omega
   have eb:qe0 (gK l k) p.b=(gK l k).set p.b.toNat ((cK l k p.b.toNat:Int)+1):=by unfold qe0;rw[if_pos hb,gd _ hbl]
   rw[eb] at r
   exact qsY (hlt:=dt (by omega)) (hk:=hp) (hin:=hin) (ha:=df (by omega)) (hb:=dt (by omega)) (hib:=⟨hb,b2'⟩) (hgb:=qe5 l k hbl) (hgm:=by rw[gl];exact hbl) (hy2:=qij (by omega) (by have:=bnd p.b.toNat;omega)) (hs:=qah (by omega)) r
  ·have eb:∀ g,qe0 g p.b=g:=fun g=>by unfold qe0;rw[if_neg hb]
   rw[eb] at r
   exact qr8 (hlt:=dt (by omega)) (hk:=hp) (hin:=hin) (ha:=df (by omega)) (hb:=df (by omega)) (hs:=qah (by omega)) r
theorem qtZ (hL:Lnk ⟨rt,l⟩) (hn:l.length≤1000000):Fn 71 1 [trS 0 rt l] [(0,0,qaa l)] (.pv (.bool (pT (One ⟨rt,l⟩)))) 0 []:=by
 have r0:=RunsL.rounds (fun k=>onT l.length k) (fun k=>onH rt l (gK l k)) (N:=l.length) l.length 0 (Nat.zero_add _) (fun k _ hk r=>by
  obtain⟨p,hp⟩:=qao hk
  exact qnw hL hn hp r) (qpj (rt:=rt) (l:=l) (g:=gK l l.length) (k:=l.length) (hlt:=df (by omega)))
 rw[qqr] at r0
 have step:∀ m,(∀ v,v<m→cK l l.length v=if (v:Int)=rt then 0 else 1)→∀ {e:Exit} {tm2:TmL} {hp2:HpL},m≤l.length→
  Rl 1 1 71 1 77 3 (quF l.length m) (onH rt l (gK l l.length)) e tm2 hp2→Rl 1 1 71 1 77 3 (quF l.length 0) (onH rt l (gK l l.length)) e tm2 hp2:=by
  intro m hm e tm2 hp2 hml r
  refine RunsL.rounds (fun k=>quF l.length k) (fun _=>onH rt l (gK l l.length)) (N:=m) m 0 (Nat.zero_add _) (fun k _ hk r=>?_) r
  have hc:=hm k hk
  have hg:=qe5 l l.length (v:=k) (by omega)
  by_cases er:(k:Int)=rt
  ·rw[if_pos er] at hc
   exact qnF (x:=(cK l l.length k:Int)) (hlt:=dt (by omega)) (hr:=beq_iff_eq.2 er) (hg:=hg) (hin:=⟨by omega,by omega⟩) (h0:=by rw[hc];rfl) (hr2:=by simp[er]) (hs:=qah (by omega)) r
  ·rw[if_neg er] at hc
   exact qmR (x:=(cK l l.length k:Int)) (hlt:=dt (by omega)) (hr:=beq_eq_false_iff_ne.2 er) (hr2:=by simpa using er) (hg:=hg) (hin:=⟨by omega,by omega⟩) (h1:=by rw[hc];rfl) (hs:=qah (by omega)) r
 rcases qaT (fun v=>cK l l.length v=if (v:Int)=rt then 0 else 1) l.length with h | ⟨v,hv,hb,hf⟩
 ·rw[qd8 (p:=One ⟨rt,l⟩) fun v hv=>h v hv]
  exact qqs (n0:=by omega) (n1:=by omega) (r0:=r0) (r1:=step l.length h (Nat.le_refl _) (qln (hlt:=df (by omega))))
 ·rw[qdn (p:=One ⟨rt,l⟩) fun k=>hb (k v hv)]
  have hg:=qe5 l l.length hv
  refine qs6 (n0:=by omega) (n1:=by omega) (r0:=r0) (r1:=step v hf (by omega) ?_)
  by_cases er:(v:Int)=rt
  ·rw[if_pos er] at hb
   exact qke (x:=(cK l l.length v:Int)) (hlt:=dt (by omega)) (hr:=beq_iff_eq.2 er) (hg:=hg) (hin:=⟨by omega,by omega⟩) (h0:=by simp;omega)
  ·rw[if_neg er] at hb
   exact qi4 (x:=(cK l l.length v:Int)) (hlt:=dt (by omega)) (hr:=beq_eq_false_iff_ne.2 er) (hr2:=by simpa using er) (hg:=hg) (hin:=⟨by omega,by omega⟩) (h1:=by simp;omega)
end
end Go.Proofs.Ytalnjplghagbpaa

namespace Go.Proofs.Ytalnjplghagbpaa
set_option maxRecDepth 100000
open Go.RowKit
open Classical in
noncomputable def shC (l:List Pt) (i:Int):Sh Nat:=if h:∃ A,Rep l i A then h.choose else .nil
theorem qnM {l:List Pt} {i:Int} {A:Sh Nat} (h:Rep l i A):shC l i=A:=by
 have hex:∃ A,Rep l i A:=⟨A,h⟩
 unfold shC
 rw[dif_pos hex]
 exact hex.choose_spec.uniq h
theorem Rep.sub {n:List Pt}:∀ {T:Sh Nat} {i:Int},Rep n i T→∀ k∈T.list,∃ A B,Rep n (ndT n k).a A∧Rep n (ndT n k).b B
 | .nil,_,_,k,h=>by cases h
 | .node l y r,i,⟨_,p,hp,a1,a2⟩,k,h=>by
  rcases List.mem_append.1 h with h | h
  ·exact a1.sub k h
  ·rcases List.mem_cons.1 h with rfl | h
   ·have e:ndT n k=p:=by
     have:=qat (n:=n) (k:=k) (List.getElem?_eq_some_iff.1 hp).1
     rw[hp] at this
     exact (Option.some.inj this).symm
    rw[e]
    exact⟨l,r,a1,a2⟩
   ·exact a2.sub k h
noncomputable def ptN (l:List Pt) (n j k:Nat):Pt:=⟨(ndT l k).id,shI n (rtI (res n j (shC l (ndT l k).a))),shI n (rtI (res n j (shC l (ndT l k).b)))⟩
noncomputable def ptL (l:List Pt) (n j k:Nat):List Pt:=(List.range' n (k-n)).map (ptN l n j)
theorem qpL {l:List Pt} {n j k:Nat}:(ptL l n j k).length=k-n:=by unfold ptL;rw[List.length_map,List.length_range']
theorem qrE {l:List Pt} {n j k:Nat} (h1:n≤k) (h2:k<j):(ptL l n j j)[k-n]?=some (ptN l n j k):=by
 unfold ptL
 rw[List.getElem?_map,List.getElem?_range' (by omega)]
 simp only[Option.map_some]
 rw[show n+1*(k-n)=k by omega]
section
variable {rt:Int} {l:List Pt}
theorem qdX {lo hi:Nat} {T:Sh Nat} (hT:∀ k∈T.list,k<l.length) (hn:l.length≤1000000) : -1≤rtI (res lo hi T)∧rtI (res lo hi T)≤1000000:=by
 cases e:res lo hi T with
 | nil=>exact⟨Int.le_refl _,by decide⟩
 | node a k b=>
  have:k∈(res lo hi T).list:=by rw[e];exact List.mem_append_right _ List.mem_cons_self
  have:=hT k (qd0 this).1
  exact⟨by show (-1:Int)≤(k:Int);omega,by show (k:Int)≤1000000;omega⟩
end
end Go.Proofs.Ytalnjplghagbpaa
