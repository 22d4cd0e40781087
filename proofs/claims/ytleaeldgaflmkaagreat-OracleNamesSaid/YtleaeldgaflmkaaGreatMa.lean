/-
  All pairs of a field's points: what the iterator gives. Conditions: none.
-/
import Derived.Test.YtleaeldgaflmkaaGreatSxT
import Derived.Test.YtleaeldgaflmkaaGreatW33
import Derived.Test.YtleaeldgaflmkaaGreatW25
namespace Go.Proofs.YtleaeldgaflmkaaGreat
set_option maxRecDepth 100000
open Go.RowKit
def qau:List Pt→List (Pt×Pt)
 | []=>[]
 | p::r=>r.map (fun q=>(p,q))++qau r
def qfF (x:Pt×Pt):Array Value:=#[ptV x.1,ptV x.2]
abbrev qcz (l:List Pt):List (Array Value):=(qau l).map qfF
theorem qu7 {l:List Pt} {i j:Nat} {p:Pt} (h:l[i+j]?=some p):qes (qay l) ((0+i)*3+j*3) [iV p.id,iV p.a,iV p.b]:=by
 have:=qa4 h
 rwa [show 0*3+(i+j)*3=(0+i)*3+j*3 by omega] at this
section
noncomputable abbrev pc (p:List Nat):Code:=qjo Tryz.prog 186 p
theorem qll:pc []=.seq (pc [0]) (.block 0 (.loop (pc [1,0,0]))):=by kernel_rfl
theorem qfv:pc [1,0,0]=.seq (pc [1,0,0,0]) (.seq (pc [1,0,0,1,0]) (.seq (.block 1 (.seq (pc [1,0,0,1,1,0,0,0]) (.seq (pc [1,0,0,1,1,0,0,1,0]) (.block 2 (.loop (pc [1,0,0,1,1,0,0,1,1,0,0])))))) (pc [1,0,0,1,1,1]))):=by kernel_rfl
noncomputable abbrev pi (p:List Nat):Code:=pc ([1,0,0,1,1,0,0,1,1,0,0]++p)
theorem qfd:pc [1,0,0,1,1,0,0,1,1,0,0]=.seq (pi [0]) (.seq (pi [1,0]) (.seq (.block 3 (.seq (pi [1,1,0,0,0]) (.seq (.region 6 (qlP (pi [1,1,0,0,1,0])) false) (pi [1,1,0,0,1,1])))) (pi [1,1,1]))):=by kernel_rfl
abbrev yv (l:Nat):SV:=.pv (.func (.yield l) #[] #[])
abbrev pH (l:List Pt):List (Nat×Nat×SV):=[(1,0,.ls 0 l.length),(0,0,qad l)]
abbrev pH2 (l:List Pt) (p:Pt):List (Nat×Nat×SV):=[(1,0,.ls 0 l.length),(2,0,.pv (iV p.id)),(2,1,.pv (iV p.a)),(2,2,.pv (iV p.b)),(0,0,qad l)]
abbrev pH3 (l:List Pt) (p q:Pt):List (Nat×Nat×SV):=[(1,0,.ls 0 l.length),(2,0,.pv (iV p.id)),(2,1,.pv (iV p.a)),(2,2,.pv (iV p.b)),(3,0,.pv (iV q.id)),(3,1,.pv (iV q.a)),(3,2,.pv (iV q.b)),(0,0,qad l)]
abbrev pT0 (y:Nat):List (Nat×SV):=[(0,yv y),(1,.pp 1 0)]
abbrev pTo (y:Nat) (l:List Pt) (i:Nat):List (Nat×SV):=[(0,yv y),(1,.pp 1 0),(8,.ls 0 l.length),(9,.pv (iV (l.length:Int))),(10,.pv (iV (i:Int)))]
abbrev pTi (y:Nat) (l:List Pt) (i j:Nat):List (Nat×SV):=[(0,yv y),(1,.pp 1 0),(4,.pp 2 0),(8,.ls 0 l.length),(9,.pv (iV (l.length:Int))),(10,.pv (iV (i:Int))),(19,.lq 0 3 (0+(i+1)) (l.length-(i+1))),(20,.pv (iV ((l.length-(i+1):Nat):Int))),(21,.pv (iV (j:Int)))]
theorem qqx (y:Nat) (l:List Pt):Seg Tryz.prog 2 2 (pc [0]) 32 2 (pT0 y) (pH l) .normal 2 (pTo y l 0) (pH l):=
 qaR [] 100 [] (Nat.le_refl _) (by kernel_rfl) (Ro tI)
theorem qmw (y:Nat) (l:List Pt) (i:Nat) (b:Bool) (h:decide ((i:Int)<(l.length:Int))=b):Seg Tryz.prog 2 2 (pc [1,0,0,0]) 32 2 (pTo y l i) (pH l) .normal 2 ((11,.pv (.bool b))::pTo y l i) (pH l):=
 qaR [] 100 [.t b] (Nat.le_refl _) (by kernel_rfl) (Ro (Ai h tI))
theorem qvs (y:Nat) (l:List Pt) (i:Nat):Seg Tryz.prog 2 2 (pc [1,0,0,1,0]) 32 2 ((11,.pv (.bool true))::pTo y l i) (pH l) .normal 2 (pTo y l i) (pH l):=
 qaR [] 100 [] (Nat.le_refl _) (by kernel_rfl) (Ro tI)
theorem qxy (y:Nat) (l:List Pt) (i:Nat):Seg Tryz.prog 2 2 (pc [1,0,0,1,0]) 32 2 ((11,.pv (.bool false))::pTo y l i) (pH l) (.exit 0) 2 (pTo y l i) (pH l):=
 qaR [] 100 [] (Nat.le_refl _) (by kernel_rfl) (Ro tI)
abbrev pTp (y:Nat) (l:List Pt) (i:Nat):List (Nat×SV):=[(0,yv y),(1,.pp 1 0),(3,.pv (iV (i:Int))),(4,.pp 2 0),(8,.ls 0 l.length),(9,.pv (iV (l.length:Int))),(10,.pv (iV (i:Int)))]
theorem qAi (y:Nat) (l:List Pt) (i:Nat) (p:Pt) (hin:0≤(i:Int)∧(i:Int)<(l.length:Int)) (hp:l[i]?=some p):Seg Tryz.prog 2 2 (pc [1,0,0,1,1,0,0,0]) 32 2 (pTo y l i) (pH l) .normal 3 (pTp y l i) (pH2 l p):=
 qaR [] 100 [.r (ptV p)] (by decide) (by kernel_rfl) (Ro (Ai hin (Ai (qa4 hp) tI)))
theorem qwR (y:Nat) (l:List Pt) (i:Nat) (p:Pt) (h1:iV (IntKind.i64.wrap ((i:Int)+1))=iV ((i+1:Nat):Int)) (h2:i+1≤l.length):Seg Tryz.prog 2 3 (pc [1,0,0,1,1,0,0,1,0]) 32 3 (pTp y l i) (pH2 l p) .normal 3 (pTi y l i 0) (pH2 l p):=
 qaR [] 100 [Re h1,.k] (by decide) (by kernel_rfl) (Ro (Ai h1 (Ai (Int.natCast_nonneg (i+1)) (Ai tI (Ai h2 (Ai (Nat.le_refl l.length) tI))))))
theorem qtb (y:Nat) (l:List Pt) (i:Nat) (h:iV (IntKind.i64.wrap ((i:Int)+1))=iV ((i+1:Nat):Int)):Seg Tryz.prog 2 2 (pc [1,0,0,1,1,1]) 32 2 (pTo y l i) (pH l) .normal 2 (pTo y l (i+1)) (pH l):=
 qaR [] 100 [Re h] (Nat.le_refl _) (by kernel_rfl) (Ro (Ai h tI))
theorem qnC (y:Nat) (l:List Pt) (i j:Nat) (p:Pt) (b:Bool) (h:decide ((j:Int)<((l.length-(i+1):Nat):Int))=b):Seg Tryz.prog 3 3 (pi [0]) 32 3 (pTi y l i j) (pH2 l p) .normal 3 ((22,.pv (.bool b))::pTi y l i j) (pH2 l p):=
 qaR [] 100 [.t b] (Nat.le_refl _) (by kernel_rfl) (Ro (Ai h tI))
theorem qvT (y:Nat) (l:List Pt) (i j:Nat) (p:Pt):Seg Tryz.prog 3 3 (pi [1,0]) 32 3 ((22,.pv (.bool true))::pTi y l i j) (pH2 l p) .normal 3 (pTi y l i j) (pH2 l p):=
 qaR [] 100 [] (Nat.le_refl _) (by kernel_rfl) (Ro tI)
theorem qzG (y:Nat) (l:List Pt) (i j:Nat) (p:Pt):Seg Tryz.prog 3 3 (pi [1,0]) 32 3 ((22,.pv (.bool false))::pTi y l i j) (pH2 l p) (.exit 2) 3 (pTi y l i j) (pH2 l p):=
 qaR [] 100 [] (Nat.le_refl _) (by kernel_rfl) (Ro tI)
theorem qAe (y:Nat) (l:List Pt) (i j:Nat) (p q:Pt) (hin:0≤(j:Int)∧(j:Int)<((l.length-(i+1):Nat):Int)) (hq:l[i+1+j]?=some q):Seg Tryz.prog 3 3 (pi [1,1,0,0,0]) 32 3 (pTi y l i j) (pH2 l p) .normal 4 ((6,.pp 3 0)::pTi y l i j) (pH3 l p q):=
 qaR [] 100 [.r (ptV q)] (by decide) (by kernel_rfl) (Ro (Ai hin (Ai (qu7 hq) tI)))
noncomputable abbrev po:Array Oper:=qlP (pi [1,1,0,0,1,0])
theorem qt7:po.toList=po.toList.take 3++(po.toList.drop 3).take 1++po.toList.drop 4:=by kernel_rfl
theorem qqm (y:Nat) (l:List Pt) (i j:Nat) (p q:Pt):qnR Tryz.prog 3 3 po (po.toList.take 3) 32 4 ((6,.pp 3 0)::pTi y l i j) (pH3 l p q) 4 ((25,yv y)::(26,.pv (ptV p))::(27,.pv (ptV q))::pTi y l i j) (pH2 l p):=
 qce [] 100 [] (by decide) (by kernel_rfl) (Ro tI)
theorem qnZ (y:Nat) (l:List Pt) (i j:Nat) (p:Pt):qnR Tryz.prog 3 3 po (po.toList.drop 4) 32 3 ((28,.pv (.bool true))::pTi y l i j) (pH2 l p) 3 ((29,.pv (.bool false))::pTi y l i j) (pH2 l p):=
 qce [] 100 [] (Nat.le_refl _) (by kernel_rfl) (Ro tI)
theorem qyX (y:Nat) (l:List Pt) (i j:Nat) (p:Pt):Seg Tryz.prog 3 3 (pi [1,1,0,0,1,1]) 32 3 ((29,.pv (.bool false))::pTi y l i j) (pH2 l p) .normal 3 (pTi y l i j) (pH2 l p):=
 qaR [] 100 [] (Nat.le_refl _) (by kernel_rfl) (Ro tI)
theorem qth (y:Nat) (l:List Pt) (i j:Nat) (p:Pt) (h:iV (IntKind.i64.wrap ((j:Int)+1))=iV ((j+1:Nat):Int)):Seg Tryz.prog 3 3 (pi [1,1,1]) 32 3 (pTi y l i j) (pH2 l p) .normal 3 (pTi y l i (j+1)) (pH2 l p):=
 qaR [] 100 [Re h] (Nat.le_refl _) (by kernel_rfl) (Ro (Ai h tI))
end
end Go.Proofs.YtleaeldgaflmkaaGreat
