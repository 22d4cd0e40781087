/-
  Joined: Vj, Vp, Vq, Vr0, Vt, Vz, Vy, Vs. Conditions: none.
-/
import Derived.Test.YtleaeldgaflmkaaGreatW45
import Derived.Test.YtleaeldgaflmkaaGreatW25
import Derived.Test.YtleaeldgaflmkaaGreatW35
import Derived.Test.YtleaeldgaflmkaaGreatW28
import Derived.Test.YtleaeldgaflmkaaGreatW36
import Derived.Test.YtleaeldgaflmkaaGreatW37
import Derived.Test.YtleaeldgaflmkaaGreatW33
import Derived.Test.YtleaeldgaflmkaaGreatW44
namespace Go.Proofs.YtleaeldgaflmkaaGreat
set_option maxRecDepth 100000
open Go.RowKit
theorem qzO {pi pa pb z qn qd:Int} {w:Bool} (hf:((1:Int)==1&&((pi==pi&&(pa==pa&&(pb==pb&&true)))&&((z==0)&&((qn==0&&(qd==0&&true))&&true))))=w) :
 Pure Tryz.prog 72 #[.agg #[.int .u8 1,iV pi,iV pa,iV pb,iV z,iV qn,iV qd]] (.bool w):=
 qac (args:=[.agg #[.int .u8 1,iV pi,iV pa,iV pb,iV z,iV qn,iV qd]]) 300 [.k,.t w]
  (Ai rfl (Ai hf tI)) (by kernel_rfl)
theorem qy0 {pi pa pb z qn qd:Int} {w:Bool} (hf:((2:Int)==2&&((pi==0&&(pa==0&&(pb==0&&true)))&&((z==z)&&((qn==0&&(qd==0&&true))&&true))))=w) :
 Pure Tryz.prog 72 #[.agg #[.int .u8 2,iV pi,iV pa,iV pb,iV z,iV qn,iV qd]] (.bool w):=
 qac (args:=[.agg #[.int .u8 2,iV pi,iV pa,iV pb,iV z,iV qn,iV qd]]) 300 [.k,.k,.k,.t w]
  (Ai rfl (Ai hf tI)) (by kernel_rfl)
theorem qy9 {pi pa pb z qn qd:Int} {w:Bool} (hf:((3:Int)==3&&((pi==pi&&(pa==pa&&(pb==pb&&true)))&&((z==0)&&((qn==0&&(qd==0&&true))&&true))))=w) :
 Pure Tryz.prog 72 #[.agg #[.int .u8 3,iV pi,iV pa,iV pb,iV z,iV qn,iV qd]] (.bool w):=
 qac (args:=[.agg #[.int .u8 3,iV pi,iV pa,iV pb,iV z,iV qn,iV qd]]) 300 [.k,.k,.t w]
  (Ai rfl (Ai hf tI)) (by kernel_rfl)
theorem qy8 {pi pa pb z qn qd:Int} {w:Bool} (hf:((4:Int)==4&&((pi==0&&(pa==0&&(pb==0&&true)))&&((z==0)&&((qn==qn&&(qd==qd&&true))&&true))))=w) :
 Pure Tryz.prog 72 #[.agg #[.int .u8 4,iV pi,iV pa,iV pb,iV z,iV qn,iV qd]] (.bool w):=
 qac (args:=[.agg #[.int .u8 4,iV pi,iV pa,iV pb,iV z,iV qn,iV qd]]) 300 [.k,.k,.k,.k,.t w]
  (Ai rfl (Ai hf tI)) (by kernel_rfl)
theorem qzi {pi pa pb z qn qd:Int} {w:Bool} (hf:((5:Int)==5&&((pi==0&&(pa==0&&(pb==0&&true)))&&((z==0)&&((qn==0&&(qd==0&&true))&&true))))=w) :
 Pure Tryz.prog 72 #[.agg #[.int .u8 5,iV pi,iV pa,iV pb,iV z,iV qn,iV qd]] (.bool w):=
 qac (args:=[.agg #[.int .u8 5,iV pi,iV pa,iV pb,iV z,iV qn,iV qd]]) 300 [.k,.k,.k,.k,.k,.t w]
  (Ai rfl (Ai hf tI)) (by kernel_rfl)
theorem qyZ {pi pa pb z qn qd:Int} {w:Bool} (hf:((6:Int)==6&&((pi==0&&(pa==0&&(pb==0&&true)))&&((z==0)&&((qn==0&&(qd==0&&true))&&true))))=w) :
 Pure Tryz.prog 72 #[.agg #[.int .u8 6,iV pi,iV pa,iV pb,iV z,iV qn,iV qd]] (.bool w):=
 qac (args:=[.agg #[.int .u8 6,iV pi,iV pa,iV pb,iV z,iV qn,iV qd]]) 300 [.k,.k,.k,.k,.k,.k,.t w]
  (Ai rfl (Ai hf tI)) (by kernel_rfl)
theorem qzB {kd pi pa pb z qn qd:Int} (h1:(kd==1)=false) (h3:(kd==3)=false) (h2:(kd==2)=false) (h4:(kd==4)=false) (h5:(kd==5)=false) (h6:(kd==6)=false) :
 Pure Tryz.prog 72 #[.agg #[.int .u8 kd,iV pi,iV pa,iV pb,iV z,iV qn,iV qd]] (.bool false):=
 qac (args:=[.agg #[.int .u8 kd,iV pi,iV pa,iV pb,iV z,iV qn,iV qd]]) 300 [.t false,.t false,.t false,.t false,.t false,.t false]
  (Ai rfl (Ai h1 (Ai h3 (Ai h2 (Ai h4 (Ai h5 (Ai h6 tI))))))) (by kernel_rfl)
abbrev qnw (s:List Pt) (td:Int) (tn:Int):Prop:=Fn 21 1 [.ag [.pv (iV tn),.pv (iV td),.ls 0 s.length]] [(0,0,qad s)] (.ag [.pv (iV tn),.pv (iV td),.ls 1 s.length]) 1 [(1,0,qad s)]
theorem qzo {tn td e1 kd pi pa pb z qn qd:Int} {s:List Pt} (ha:Pure Tryz.prog 31 #[qaa qn qd] (iV (e1))) (he:(e1 !=0)=true) (ht:qnw s td tn) :
 Fn 73 1 [.ag [.pv (iV tn),.pv (iV td),.ls 0 s.length],.pv (.agg #[.int .u8 kd,iV pi,iV pa,iV pb,iV z,iV qn,iV qd])] [(0,0,qad s)] (.tu [.ag [.pv (iV tn),.pv (iV td),.ls 1 s.length],.one (.pv (.agg #[iV (e1),iV (0),iV (0),iV (0),iV (0),.slice none 0 0]))]) 1 [(1,0,qad s)]:=
 Fz [(1,5)] [Rf ha,.t true,Cf ht [0]]
  (qaH (qaG [(1,5)]) [(1,0,qad s)]) (Ai ha (Ai he (Co ht [0] 5 tI)))
theorem qzp {tn td e2 kd pi pa pb z qn qd:Int} {s:List Pt} (ha:Pure Tryz.prog 31 #[qaa qn qd] (iV (0))) (hc:Pure Tryz.prog 33 #[qaa qn qd,qaa tn td] (iV (e2))) (hl:decide (e2≤0)=true) (ht:qnw s td tn) :
 Fn 73 1 [.ag [.pv (iV tn),.pv (iV td),.ls 0 s.length],.pv (.agg #[.int .u8 kd,iV pi,iV pa,iV pb,iV z,iV qn,iV qd])] [(0,0,qad s)] (.tu [.ag [.pv (iV tn),.pv (iV td),.ls 1 s.length],.one (.pv (.agg #[iV (44),iV (0),iV (0),iV (0),iV (0),.slice none 0 0]))]) 1 [(1,0,qad s)]:=
 Fz [(1,5)] [Rf ha,.k,Rf hc,.t true,Cf ht [0]]
  (qaH (qaG [(1,5)]) [(1,0,qad s)]) (Ai ha (Ai hc (Ai hl (Co ht [0] 5 tI))))
theorem qxO {tn td e2 kd pi pa pb z qn qd:Int} {s:List Pt} {ms:List Mt} (ha:Pure Tryz.prog 31 #[qaa qn qd] (iV (0))) (hc:Pure Tryz.prog 33 #[qaa qn qd,qaa tn td] (iV (e2))) (hl:decide (e2≤0)=false) (ht:qnw s td tn) (hb:Fn 103 1 [qaq 0 s,.pv (qaa tn td),.pv (qaa qn qd)] [(0,0,qad s)] (.ls 1 ms.length) 1 [(1,0,.row 95 4 ms.length (msV ms))]) :
 Fn 73 1 [.ag [.pv (iV tn),.pv (iV td),.ls 0 s.length],.pv (.agg #[.int .u8 kd,iV pi,iV pa,iV pb,iV z,iV qn,iV qd])] [(0,0,qad s)] (.tu [.ag [.pv (iV qn),.pv (iV qd),.ls 1 s.length],.ag [.pv (iV 0),.pv (iV 0),.pv (iV 0),.pv (iV 0),.pv (iV 0),.ls 2 ms.length]]) 2 [(1,0,qad s),(2,0,.row 95 4 ms.length (msV ms))]:=
 Fz [(1,5),(2,7)] [Rf ha,.k,Rf hc,.t false,Cf ht [0],.md,Cf hb [0]]
  (qaH (qaG [(1,5),(2,7)]) [(1,0,qad s),(2,0,.row 95 4 ms.length (msV ms))]) (Ai ha (Ai hc (Ai hl (Co ht [0] 5 (Co hb [0] 7 tI)))))
theorem qwg {tn td e1 pi pa pb z qn qd:Int} {s:List Pt} (hp:Fn 107 1 [qaq 0 s,.pv (qab pi pa pb)] [(0,0,qad s)] (.pv (.tuple #[.agg #[.slice none 0 0],iV e1])) 0 []) (he:(e1 !=0)=true) (ht:qnw s td tn) :
 Fn 78 1 [.ag [.pv (iV tn),.pv (iV td),.ls 0 s.length],.pv (.agg #[.int .u8 1,iV pi,iV pa,iV pb,iV z,iV qn,iV qd])] [(0,0,qad s)] (.tu [.ag [.pv (iV tn),.pv (iV td),.ls 1 s.length],.one (.pv (iV e1))]) 1 [(1,0,qad s)]:=
 Fz [(1,5)] [.k,Cf hp [0],.t true,Cf ht [0]]
  (qaH (qaG [(1,5)]) [(1,0,qad s)]) (Co hp [0] 5 (Ai he (Co ht [0] 5 tI)))
theorem qv3 {tn td pi pa pb z qn qd:Int} {s m:List Pt} (hp:Fn 107 1 [qaq 0 s,.pv (qab pi pa pb)] [(0,0,qad s)] (.tu [.ag [.ls 1 m.length],.one (.pv (iV 0))]) 1 [(1,0,qad m)]) :
 Fn 78 1 [.ag [.pv (iV tn),.pv (iV td),.ls 0 s.length],.pv (.agg #[.int .u8 1,iV pi,iV pa,iV pb,iV z,iV qn,iV qd])] [(0,0,qad s)] (.tu [.ag [.pv (iV tn),.pv (iV td),.ls 1 m.length],.one (.pv (iV 0))]) 1 [(1,0,qad m)]:=
 Fz [(1,5)] [.k,Cf hp [0],.k]
  (qaH (qaG [(1,5)]) [(1,0,qad m)]) (Co hp [0] 5 tI)
theorem qwB {tn td e1 pi pa pb z qn qd:Int} {s:List Pt} (hp:Fn 108 1 [qaq 0 s,.pv (iV z)] [(0,0,qad s)] (.pv (.tuple #[.agg #[.slice none 0 0],iV e1])) 0 []) (he:(e1 !=0)=true) (ht:qnw s td tn) :
 Fn 78 1 [.ag [.pv (iV tn),.pv (iV td),.ls 0 s.length],.pv (.agg #[.int .u8 2,iV pi,iV pa,iV pb,iV z,iV qn,iV qd])] [(0,0,qad s)] (.tu [.ag [.pv (iV tn),.pv (iV td),.ls 1 s.length],.one (.pv (iV e1))]) 1 [(1,0,qad s)]:=
 Fz [(1,5)] [.k,.k,Cf hp [0],.t true,Cf ht [0]]
  (qaH (qaG [(1,5)]) [(1,0,qad s)]) (Co hp [0] 5 (Ai he (Co ht [0] 5 tI)))
theorem qvh {tn td pi pa pb z qn qd:Int} {s m:List Pt} (hp:Fn 108 1 [qaq 0 s,.pv (iV z)] [(0,0,qad s)] (.tu [.ag [.ls 1 m.length],.one (.pv (iV 0))]) 1 [(1,0,qad m)]) :
 Fn 78 1 [.ag [.pv (iV tn),.pv (iV td),.ls 0 s.length],.pv (.agg #[.int .u8 2,iV pi,iV pa,iV pb,iV z,iV qn,iV qd])] [(0,0,qad s)] (.tu [.ag [.pv (iV tn),.pv (iV td),.ls 1 m.length],.one (.pv (iV 0))]) 1 [(1,0,qad m)]:=
 Fz [(1,5)] [.k,.k,Cf hp [0],.k]
  (qaH (qaG [(1,5)]) [(1,0,qad m)]) (Co hp [0] 5 tI)
theorem qw1 {tn td e1 pi pa pb z qn qd:Int} {s:List Pt} (hp:Fn 109 1 [qaq 0 s,.pv (qab pi pa pb)] [(0,0,qad s)] (.pv (.tuple #[.agg #[.slice none 0 0],iV e1])) 0 []) (he:(e1 !=0)=true) (ht:qnw s td tn) :
 Fn 78 1 [.ag [.pv (iV tn),.pv (iV td),.ls 0 s.length],.pv (.agg #[.int .u8 3,iV pi,iV pa,iV pb,iV z,iV qn,iV qd])] [(0,0,qad s)] (.tu [.ag [.pv (iV tn),.pv (iV td),.ls 1 s.length],.one (.pv (iV e1))]) 1 [(1,0,qad s)]:=
 Fz [(1,5)] [.k,.k,Cf hp [0],.t true,Cf ht [0]]
  (qaH (qaG [(1,5)]) [(1,0,qad s)]) (Co hp [0] 5 (Ai he (Co ht [0] 5 tI)))
theorem qv6 {tn td pi pa pb z qn qd:Int} {s m:List Pt} (hp:Fn 109 1 [qaq 0 s,.pv (qab pi pa pb)] [(0,0,qad s)] (.tu [.ag [.ls 1 m.length],.one (.pv (iV 0))]) 1 [(1,0,qad m)]) :
 Fn 78 1 [.ag [.pv (iV tn),.pv (iV td),.ls 0 s.length],.pv (.agg #[.int .u8 3,iV pi,iV pa,iV pb,iV z,iV qn,iV qd])] [(0,0,qad s)] (.tu [.ag [.pv (iV tn),.pv (iV td),.ls 1 m.length],.one (.pv (iV 0))]) 1 [(1,0,qad m)]:=
 Fz [(1,5)] [.k,.k,Cf hp [0],.k]
  (qaH (qaG [(1,5)]) [(1,0,qad m)]) (Co hp [0] 5 tI)
theorem qyh {tn td kd pi pa pb z qn qd:Int} {s:List Pt} (hw:Pure Tryz.prog 72 #[.agg #[.int .u8 kd,iV pi,iV pa,iV pb,iV z,iV qn,iV qd]] (.bool false)) (ht:qnw s td tn) :
 Fn 48 1 [.ag [.pv (iV tn),.pv (iV td),.ls 0 s.length],.pv (.agg #[.int .u8 kd,iV pi,iV pa,iV pb,iV z,iV qn,iV qd])] [(0,0,qad s)] (.tu [.ag [.pv (iV tn),.pv (iV td),.ls 1 s.length],.one (.pv (.agg #[iV (12),iV (0),iV (0),iV (0),iV (0),.slice none 0 0]))]) 1 [(1,0,qad s)]:=
 Fz [(1,5)] [Rf hw,.k,Cf ht [0]]
  (qaH (qaG [(1,5)]) [(1,0,qad s)]) (Ai hw (Co ht [0] 5 tI))
theorem qvg {tn td e1 pi pa pb z qn qd:Int} {s:List Pt} (hw:Pure Tryz.prog 72 #[.agg #[.int .u8 1,iV pi,iV pa,iV pb,iV z,iV qn,iV qd]] (.bool true)) (hc:Fn 78 1 [.ag [.pv (iV tn),.pv (iV td),.ls 0 s.length],.pv (.agg #[.int .u8 1,iV pi,iV pa,iV pb,iV z,iV qn,iV qd])] [(0,0,qad s)] (.tu [.ag [.pv (iV tn),.pv (iV td),.ls 1 s.length],.one (.pv (iV e1))]) 1 [(1,0,qad s)]) :
 Fn 48 1 [.ag [.pv (iV tn),.pv (iV td),.ls 0 s.length],.pv (.agg #[.int .u8 1,iV pi,iV pa,iV pb,iV z,iV qn,iV qd])] [(0,0,qad s)] (.tu [.ag [.pv (iV tn),.pv (iV td),.ls 1 s.length],.one (.pv (.agg #[iV (e1),iV (0),iV (0),iV (0),iV (0),.slice none 0 0]))]) 1 [(1,0,qad s)]:=
 Fz [(1,5)] [Rf hw,.k,.k,.k,.k,Cf hc [0]]
  (qaH (qaG [(1,5)]) [(1,0,qad s)]) (Ai hw (Co hc [0] 5 tI))
theorem quU {tn td pi pa pb z qn qd:Int} {s m:List Pt} (hw:Pure Tryz.prog 72 #[.agg #[.int .u8 1,iV pi,iV pa,iV pb,iV z,iV qn,iV qd]] (.bool true)) (hc:Fn 78 1 [.ag [.pv (iV tn),.pv (iV td),.ls 0 s.length],.pv (.agg #[.int .u8 1,iV pi,iV pa,iV pb,iV z,iV qn,iV qd])] [(0,0,qad s)] (.tu [.ag [.pv (iV tn),.pv (iV td),.ls 1 m.length],.one (.pv (iV 0))]) 1 [(1,0,qad m)]) :
 Fn 48 1 [.ag [.pv (iV tn),.pv (iV td),.ls 0 s.length],.pv (.agg #[.int .u8 1,iV pi,iV pa,iV pb,iV z,iV qn,iV qd])] [(0,0,qad s)] (.tu [.ag [.pv (iV tn),.pv (iV td),.ls 1 m.length],.one (.pv (.agg #[iV (0),iV (0),iV (0),iV (0),iV (0),.slice none 0 0]))]) 1 [(1,0,qad m)]:=
 Fz [(1,5)] [Rf hw,.k,.k,.k,.k,Cf hc [0]]
  (qaH (qaG [(1,5)]) [(1,0,qad m)]) (Ai hw (Co hc [0] 5 tI))
theorem qw2 {tn td e1 pi pa pb z qn qd:Int} {s:List Pt} (hw:Pure Tryz.prog 72 #[.agg #[.int .u8 2,iV pi,iV pa,iV pb,iV z,iV qn,iV qd]] (.bool true)) (hc:Fn 78 1 [.ag [.pv (iV tn),.pv (iV td),.ls 0 s.length],.pv (.agg #[.int .u8 2,iV pi,iV pa,iV pb,iV z,iV qn,iV qd])] [(0,0,qad s)] (.tu [.ag [.pv (iV tn),.pv (iV td),.ls 1 s.length],.one (.pv (iV e1))]) 1 [(1,0,qad s)]) :
 Fn 48 1 [.ag [.pv (iV tn),.pv (iV td),.ls 0 s.length],.pv (.agg #[.int .u8 2,iV pi,iV pa,iV pb,iV z,iV qn,iV qd])] [(0,0,qad s)] (.tu [.ag [.pv (iV tn),.pv (iV td),.ls 1 s.length],.one (.pv (.agg #[iV (e1),iV (0),iV (0),iV (0),iV (0),.slice none 0 0]))]) 1 [(1,0,qad s)]:=
 Fz [(1,5)] [Rf hw,.k,.k,.k,.k,Cf hc [0]]
  (qaH (qaG [(1,5)]) [(1,0,qad s)]) (Ai hw (Co hc [0] 5 tI))
theorem quP {tn td pi pa pb z qn qd:Int} {s m:List Pt} (hw:Pure Tryz.prog 72 #[.agg #[.int .u8 2,iV pi,iV pa,iV pb,iV z,iV qn,iV qd]] (.bool true)) (hc:Fn 78 1 [.ag [.pv (iV tn),.pv (iV td),.ls 0 s.length],.pv (.agg #[.int .u8 2,iV pi,iV pa,iV pb,iV z,iV qn,iV qd])] [(0,0,qad s)] (.tu [.ag [.pv (iV tn),.pv (iV td),.ls 1 m.length],.one (.pv (iV 0))]) 1 [(1,0,qad m)]) :
 Fn 48 1 [.ag [.pv (iV tn),.pv (iV td),.ls 0 s.length],.pv (.agg #[.int .u8 2,iV pi,iV pa,iV pb,iV z,iV qn,iV qd])] [(0,0,qad s)] (.tu [.ag [.pv (iV tn),.pv (iV td),.ls 1 m.length],.one (.pv (.agg #[iV (0),iV (0),iV (0),iV (0),iV (0),.slice none 0 0]))]) 1 [(1,0,qad m)]:=
 Fz [(1,5)] [Rf hw,.k,.k,.k,.k,Cf hc [0]]
  (qaH (qaG [(1,5)]) [(1,0,qad m)]) (Ai hw (Co hc [0] 5 tI))
theorem qvm {tn td e1 pi pa pb z qn qd:Int} {s:List Pt} (hw:Pure Tryz.prog 72 #[.agg #[.int .u8 3,iV pi,iV pa,iV pb,iV z,iV qn,iV qd]] (.bool true)) (hc:Fn 78 1 [.ag [.pv (iV tn),.pv (iV td),.ls 0 s.length],.pv (.agg #[.int .u8 3,iV pi,iV pa,iV pb,iV z,iV qn,iV qd])] [(0,0,qad s)] (.tu [.ag [.pv (iV tn),.pv (iV td),.ls 1 s.length],.one (.pv (iV e1))]) 1 [(1,0,qad s)]) :
 Fn 48 1 [.ag [.pv (iV tn),.pv (iV td),.ls 0 s.length],.pv (.agg #[.int .u8 3,iV pi,iV pa,iV pb,iV z,iV qn,iV qd])] [(0,0,qad s)] (.tu [.ag [.pv (iV tn),.pv (iV td),.ls 1 s.length],.one (.pv (.agg #[iV (e1),iV (0),iV (0),iV (0),iV (0),.slice none 0 0]))]) 1 [(1,0,qad s)]:=
 Fz [(1,5)] [Rf hw,.k,.k,.k,.k,Cf hc [0]]
  (qaH (qaG [(1,5)]) [(1,0,qad s)]) (Ai hw (Co hc [0] 5 tI))
theorem qwD {tn td pi pa pb z qn qd:Int} {s m:List Pt} (hw:Pure Tryz.prog 72 #[.agg #[.int .u8 3,iV pi,iV pa,iV pb,iV z,iV qn,iV qd]] (.bool true)) (hc:Fn 78 1 [.ag [.pv (iV tn),.pv (iV td),.ls 0 s.length],.pv (.agg #[.int .u8 3,iV pi,iV pa,iV pb,iV z,iV qn,iV qd])] [(0,0,qad s)] (.tu [.ag [.pv (iV tn),.pv (iV td),.ls 1 m.length],.one (.pv (iV 0))]) 1 [(1,0,qad m)]) :
 Fn 48 1 [.ag [.pv (iV tn),.pv (iV td),.ls 0 s.length],.pv (.agg #[.int .u8 3,iV pi,iV pa,iV pb,iV z,iV qn,iV qd])] [(0,0,qad s)] (.tu [.ag [.pv (iV tn),.pv (iV td),.ls 1 m.length],.one (.pv (.agg #[iV (0),iV (0),iV (0),iV (0),iV (0),.slice none 0 0]))]) 1 [(1,0,qad m)]:=
 Fz [(1,5)] [Rf hw,.k,.k,.k,.k,Cf hc [0]]
  (qaH (qaG [(1,5)]) [(1,0,qad m)]) (Ai hw (Co hc [0] 5 tI))
theorem qrc {tn td e1 pi pa pb z qn qd:Int} {s:List Pt} (hw:Pure Tryz.prog 72 #[.agg #[.int .u8 4,iV pi,iV pa,iV pb,iV z,iV qn,iV qd]] (.bool true)) (hm:Fn 73 1 [.ag [.pv (iV tn),.pv (iV td),.ls 0 s.length],.pv (.agg #[.int .u8 4,iV pi,iV pa,iV pb,iV z,iV qn,iV qd])] [(0,0,qad s)] (.tu [.ag [.pv (iV tn),.pv (iV td),.ls 1 s.length],.one (.pv (.agg #[iV (e1),iV (0),iV (0),iV (0),iV (0),.slice none 0 0]))]) 1 [(1,0,qad s)]) :
 Fn 48 1 [.ag [.pv (iV tn),.pv (iV td),.ls 0 s.length],.pv (.agg #[.int .u8 4,iV pi,iV pa,iV pb,iV z,iV qn,iV qd])] [(0,0,qad s)] (.tu [.ag [.pv (iV tn),.pv (iV td),.ls 1 s.length],.one (.pv (.agg #[iV (e1),iV (0),iV (0),iV (0),iV (0),.slice none 0 0]))]) 1 [(1,0,qad s)]:=
 Fz [(1,5)] [Rf hw,.k,.k,Cf hm [0]]
  (qaH (qaG [(1,5)]) [(1,0,qad s)]) (Ai hw (Co hm [0] 5 tI))
theorem qvq {tn td pi pa pb z qn qd:Int} {s:List Pt} {ms:List Mt} (hw:Pure Tryz.prog 72 #[.agg #[.int .u8 4,iV pi,iV pa,iV pb,iV z,iV qn,iV qd]] (.bool true)) (hm:Fn 73 1 [.ag [.pv (iV tn),.pv (iV td),.ls 0 s.length],.pv (.agg #[.int .u8 4,iV pi,iV pa,iV pb,iV z,iV qn,iV qd])] [(0,0,qad s)] (.tu [.ag [.pv (iV qn),.pv (iV qd),.ls 1 s.length],.ag [.pv (iV 0),.pv (iV 0),.pv (iV 0),.pv (iV 0),.pv (iV 0),.ls 2 ms.length]]) 2 [(1,0,qad s),(2,0,.row 95 4 ms.length (msV ms))]) :
 Fn 48 1 [.ag [.pv (iV tn),.pv (iV td),.ls 0 s.length],.pv (.agg #[.int .u8 4,iV pi,iV pa,iV pb,iV z,iV qn,iV qd])] [(0,0,qad s)] (.tu [.ag [.pv (iV qn),.pv (iV qd),.ls 1 s.length],.ag [.pv (iV 0),.pv (iV 0),.pv (iV 0),.pv (iV 0),.pv (iV 0),.ls 2 ms.length]]) 2 [(1,0,qad s),(2,0,.row 95 4 ms.length (msV ms))]:=
 Fz [(1,5),(2,6)] [Rf hw,.k,.k,Cf hm [0]]
  (qaH (qaG [(1,5),(2,6)]) [(1,0,qad s),(2,0,.row 95 4 ms.length (msV ms))]) (Ai hw (Co hm [0] 5 tI))
theorem qvX {tn td pi pa pb z qn qd:Int} {s:List Pt} (hw:Pure Tryz.prog 72 #[.agg #[.int .u8 5,iV pi,iV pa,iV pb,iV z,iV qn,iV qd]] (.bool true)) (hl:((s.length:Int)==0)=true) (ht:qnw s td tn) :
 Fn 48 1 [.ag [.pv (iV tn),.pv (iV td),.ls 0 s.length],.pv (.agg #[.int .u8 5,iV pi,iV pa,iV pb,iV z,iV qn,iV qd])] [(0,0,qad s)] (.tu [.ag [.pv (iV tn),.pv (iV td),.ls 1 s.length],.one (.pv (.agg #[iV (42),iV (0),iV (0),iV (0),iV (0),.slice none 0 0]))]) 1 [(1,0,qad s)]:=
 Fz [(1,5)] [Rf hw,.k,.k,.k,.t true,Cf ht [0]]
  (qaH (qaG [(1,5)]) [(1,0,qad s)]) (Ai hw (Ai hl (Co ht [0] 5 tI)))
theorem qwJ {tn td n1 d1 pi pa pb z qn qd id1:Int} {s:List Pt} {p:Pt} {k:Nat} {g:List Int} (hw:Pure Tryz.prog 72 #[.agg #[.int .u8 5,iV pi,iV pa,iV pb,iV z,iV qn,iV qd]] (.bool true)) (hl:((s.length:Int)==0)=false) (h0:0≤(0:Int)∧(0:Int)<(s.length:Int)) (hg:g[0]?=some id1) (ho:Fn 74 1 [qaq 0 s,.pv (qaa tn td)] [(0,0,qad s)] (.ls 1 s.length) 1 [(1,0,.row 3 1 s.length (qfI g))]) (ht:qnw s td tn) (hk:Fn 76 1 [qaq 0 s,.pv (iV id1)] [(0,0,qad s)] (.pv (iV (k:Int))) 0 []) (hk1:0≤(k:Int)∧(k:Int)<(s.length:Int)) (hk2:s[k]?=some p) (hq:Pure Tryz.prog 75 #[qab p.id p.a p.b,qaa tn td] (qaa n1 d1)) :
 Fn 48 1 [.ag [.pv (iV tn),.pv (iV td),.ls 0 s.length],.pv (.agg #[.int .u8 5,iV pi,iV pa,iV pb,iV z,iV qn,iV qd])] [(0,0,qad s)] (.tu [.ag [.pv (iV tn),.pv (iV td),.ls 1 s.length],.one (.pv (.agg #[iV (0),iV (id1),iV (0),iV (n1),iV (d1),.slice none 0 0]))]) 1 [(1,0,qad s)]:=
 Fz [(1,6)] [Rf hw,.k,.k,.k,.t false,Cf ho [0],.r (iV id1),.md,Cf ht [0],Cf hk [0],.r (ptV p),Rf hq]
  (qaH (qaG [(1,6)]) [(1,0,qad s)]) (Ai hw (Ai hl (Co ho [0] 5 (Ai h0 (Ai (qwy hg) (Co ht [0] 6 (Co hk [0] 7 (Ai hk1 (Ai (qa4 hk2) (Ai hq tI))))))))))
theorem quZ {tn td pi pa pb z qn qd:Int} {s:List Pt} (hw:Pure Tryz.prog 72 #[.agg #[.int .u8 6,iV pi,iV pa,iV pb,iV z,iV qn,iV qd]] (.bool true)) (hl:decide ((s.length:Int)<2)=true) (ht:qnw s td tn) :
 Fn 48 1 [.ag [.pv (iV tn),.pv (iV td),.ls 0 s.length],.pv (.agg #[.int .u8 6,iV pi,iV pa,iV pb,iV z,iV qn,iV qd])] [(0,0,qad s)] (.tu [.ag [.pv (iV tn),.pv (iV td),.ls 1 s.length],.one (.pv (.agg #[iV (42),iV (0),iV (0),iV (0),iV (0),.slice none 0 0]))]) 1 [(1,0,qad s)]:=
 Fz [(1,5)] [Rf hw,.k,.k,.k,.k,.t true,Cf ht [0]]
  (qaH (qaG [(1,5)]) [(1,0,qad s)]) (Ai hw (Ai hl (Co ht [0] 5 tI)))
theorem qvN {tn td n1 d1 pi pa pb z qn qd id1 id2:Int} {s:List Pt} (hw:Pure Tryz.prog 72 #[.agg #[.int .u8 6,iV pi,iV pa,iV pb,iV z,iV qn,iV qd]] (.bool true)) (hl:decide ((s.length:Int)<2)=false) (hp:Fn 77 1 [qaq 0 s,.pv (qaa tn td)] [(0,0,qad s)] (.pv (.tuple #[iV id1,iV id2,qaa n1 d1])) 0 []) (ht:qnw s td tn) :
 Fn 48 1 [.ag [.pv (iV tn),.pv (iV td),.ls 0 s.length],.pv (.agg #[.int .u8 6,iV pi,iV pa,iV pb,iV z,iV qn,iV qd])] [(0,0,qad s)] (.tu [.ag [.pv (iV tn),.pv (iV td),.ls 1 s.length],.one (.pv (.agg #[iV (0),iV (id1),iV (id2),iV (n1),iV (d1),.slice none 0 0]))]) 1 [(1,0,qad s)]:=
 Fz [(1,6)] [Rf hw,.k,.k,.k,.k,.t false,Cf hp [0],.md,Cf ht [0]]
  (qaH (qaG [(1,6)]) [(1,0,qad s)]) (Ai hw (Ai hl (Co hp [0] 5 (Co ht [0] 6 tI))))
end Go.Proofs.YtleaeldgaflmkaaGreat

namespace Go.Proofs.YtleaeldgaflmkaaGreat
set_option maxRecDepth 100000
open Go.RowKit
abbrev qa5 (a:AskQ):Value:=.agg #[.int .u8 a.kd,iV a.pi,iV a.pa,iV a.pb,iV a.z,iV a.qn,iV a.qd]
abbrev qdV (r:Rep):List S0:=[.pv (iV r.e),.pv (iV r.id),.pv (iV r.ot),.pv (iV r.n),.pv (iV r.d),.dv 4 r.ms.length ((msV r.ms).map .v)]
abbrev moS (k:Nat) (s:List Pt) (n d:Int):SV:=.ag [.pv (iV n),.pv (iV d),.ls k s.length]
abbrev mo1 (k:Nat) (s:List Pt) (n d:Int):S1:=.ag [.pv (iV n),.pv (iV d),.ls k s.length]
def wfB (a:AskQ):Bool:=
 if a.kd=1∨a.kd=3 then a.z==0&&(a.qn==0&&a.qd==0)
 else if a.kd=2 then a.pi==0&&(a.pa==0&&(a.pb==0&&(a.qn==0&&a.qd==0)))
 else if a.kd=4 then a.pi==0&&(a.pa==0&&(a.pb==0&&a.z==0))
 else if a.kd=5∨a.kd=6 then a.pi==0&&(a.pa==0&&(a.pb==0&&(a.z==0&&(a.qn==0&&a.qd==0))))
 else false
theorem qrK (a:AskQ):Pure Tryz.prog 94 #[qa5 a] (.bool (wfB a))∧Pure Tryz.prog 72 #[qa5 a] (.bool (wfB a)):=by
 obtain⟨kd,pi,pa,pb,z,qn,qd⟩:=a
 by_cases h1:kd=1
 ·subst h1;exact⟨qzz (hf:=by simp[wfB]),qzO (hf:=by simp[wfB])⟩
 by_cases h2:kd=2
 ·subst h2;exact⟨qzL (hf:=by simp[wfB,Bool.and_assoc]),qy0 (hf:=by simp[wfB,Bool.and_assoc])⟩
 by_cases h3:kd=3
 ·subst h3;exact⟨qzM (hf:=by simp[wfB]),qy9 (hf:=by simp[wfB])⟩
 by_cases h4:kd=4
 ·subst h4;exact⟨qxQ (hf:=by simp[wfB,Bool.and_assoc]),qy8 (hf:=by simp[wfB,Bool.and_assoc])⟩
 by_cases h5:kd=5
 ·subst h5;exact⟨qx2 (hf:=by simp[wfB,Bool.and_assoc]),qzi (hf:=by simp[wfB,Bool.and_assoc])⟩
 by_cases h6:kd=6
 ·subst h6;exact⟨qzy (hf:=by simp[wfB,Bool.and_assoc]),qyZ (hf:=by simp[wfB,Bool.and_assoc])⟩
 have hw:wfB ⟨kd,pi,pa,pb,z,qn,qd⟩=false:=by simp[wfB,h1,h2,h3,h4,h5,h6]
 rw[hw]
 exact⟨qxW (h1:=by simp[h1]) (h2:=by simp[h2]) (h3:=by simp[h3]) (h4:=by simp[h4]) (h5:=by simp[h5]) (h6:=by simp[h6]),qzB (h1:=by simp[h1]) (h2:=by simp[h2]) (h3:=by simp[h3]) (h4:=by simp[h4]) (h5:=by simp[h5]) (h6:=by simp[h6])⟩
section
variable {s:List Pt} {n d:Int} {a:AskQ}
inductive Done (s:List Pt) (n d:Int) (a:AskQ) (r:Rep) (n' d':Int) (s':List Pt):Prop where
 | new (he:r.e=0) (h:Fn 69 1 [moS 0 s n d,.pv (qa5 a)] [(0,0,qad s)] (.tu [mo1 1 s' n' d',.ag (qdV r)]) 1 [(1,0,qad s')])
 | old (he:r.e=0) (hs:s'=s) (h:Fn 69 1 [moS 0 s n d,.pv (qa5 a)] [(0,0,qad s)] (.tu [mo1 0 s n' d',.ag (qdV r)]) 0 [])
 | err (he:r.e≠0) (x y:Int) (h:Fn 69 1 [moS 0 s n d,.pv (qa5 a)] [(0,0,qad s)] (.tu [mo1 0 s x y,.ag (qdV r)]) 0 [])
 | non (he:r.e≠0) (x y:Int) (h:Fn 69 1 [moS 0 s n d,.pv (qa5 a)] [(0,0,qad s)] (.tu [.one (.pv (.agg #[iV x,iV y,.slice none 0 0])),.ag (qdV r)]) 0 [])
abbrev qpJ (s:List Pt) (n d:Int) (a:AskQ) (r:Rep) (n' d':Int) (s':List Pt):Prop:=
 Fn 48 1 [moS 0 s n d,.pv (qa5 a)] [(0,0,qad s)] (.tu [mo1 1 s' n' d',.ag (qdV r)]) 2 [(1,0,qad s')]
abbrev qiO (e:Int):Rep:=⟨e,0,0,0,0,[]⟩
noncomputable def qfN (s:List Pt) (n d:Int) (a:AskQ):Int:=open Classical in
 if wfB a=false then 12
 else if a.kd=1 then (if ¬ okP a.pi a.pa a.pb=true then 8 else if ∃ p∈s,p.id=a.pi then 14 else if s.length=64 then 18 else 0)
 else if a.kd=2 then (if ∃ p∈s,p.id=a.z then 0 else 6)
 else if a.kd=3 then (if ¬ okP a.pi a.pa a.pb=true then 8 else if ∃ p∈s,p.id=a.pi then 0 else 6)
 else if a.kd=4 then (if qdk a.qn a.qd≠0 then qdk a.qn a.qd else if n*a.qd<a.qn*d then 0 else 44)
 else if a.kd=5 then (if s=[] then 42 else 0)
 else (if s.length<2 then 42 else 0)
structure Outc (s:List Pt) (n d:Int) (a:AskQ) (r:Rep) (n' d':Int) (s':List Pt):Prop where
 val:Val s'
 ask:AskT n' d'
 few:r.ms.length≤100000
 ee:r.e=qfN s n d a
 keep:a.kd=5∨a.kd=6→n'=n∧d'=d∧s'=s
 err:r.e≠0→r=qiO r.e∧s'=s∧n'=n∧d'=d
 ref:qpJ s n d a r n' d' s'
 prg:Done s n d a r n' d' s'
 k1:a.kd=1→wfB a=true→okP a.pi a.pa a.pb=true→(∀ p∈s,p.id≠a.pi)→s.length<64→r=qiO 0∧n'=n∧d'=d∧s'=quk ⟨a.pi,a.pa,a.pb⟩ s
 k4:a.kd=4→wfB a=true→AskT a.qn a.qd→n*a.qd<a.qn*d→r=⟨0,0,0,0,0,qjx s n d a.qn a.qd⟩∧n'=a.qn∧d'=a.qd∧s'=s
 k5:a.kd=5→wfB a=true→(s=[]∧r.e=42)∨(s≠[]∧∃ N D,r=⟨0,(ldr s n d).id,0,N,D,[]⟩∧okB N D=true∧I64 N∧I64 D∧N*d=plS (ldr s n d) n d*D)
 k6:a.kd=6→wfB a=true→(s.length<2∧r.e=42)∨(2≤s.length∧∃ N D,r=⟨0,(ptK s (qbC s n d).1).id,(ptK s (qbC s n d).2).id,N,D,[]⟩∧DisI s n d (qbC s n d) N D)
theorem qcn {n' d':Int} {s':List Pt} {e id ot N D:Int} (h:Fn 48 1 [moS 0 s n d,.pv (qa5 a)] [(0,0,qad s)] (.tu [mo1 1 s' n' d',.one (.pv (.agg #[iV e,iV id,iV ot,iV N,iV D,.slice none 0 0]))]) 1 [(1,0,qad s')]):qpJ s n d a ⟨e,id,ot,N,D,[]⟩ n' d' s':=
 qwm (by decide) (qeI h fun β v ⟨vs,hl,hv⟩=>match vs,hl with
  | [p,q],⟨hp,hq,_⟩=>⟨[p,q],⟨hp,⟨[iV e,iV id,iV ot,iV N,iV D,.slice none 0 0],⟨rfl,rfl,rfl,rfl,rfl,qiA,tI⟩,hq⟩,tI⟩,hv⟩)
theorem qvr {n' d':Int} {s':List Pt} {ms:List Mt} (h:Fn 48 1 [moS 0 s n d,.pv (qa5 a)] [(0,0,qad s)] (.tu [mo1 1 s' n' d',.ag [.pv (iV 0),.pv (iV 0),.pv (iV 0),.pv (iV 0),.pv (iV 0),.ls 2 ms.length]]) 2 [(1,0,qad s'),(2,0,.row 95 4 ms.length (msV ms))]):qpJ s n d a ⟨0,0,0,0,0,ms⟩ n' d' s':=
 qtC (j:=2) h (by decide) rfl fun β β' v u hle hg hd ⟨vs,hl,hv⟩=>match vs,hl with
  | [p,q],⟨hp,⟨xs,hx,hq⟩,_⟩=>match xs,hx with
   | [x0,x1,x2,x3,x4,x5],⟨e0,e1,e2,e3,e4,⟨e5,_⟩,_⟩=>⟨[p,q],⟨S1.is_mono hle hp,⟨[x0,x1,x2,x3,x4,x5],⟨e0,e1,e2,e3,e4,by rw[hg] at e5;cases e5;exact hd,tI⟩,hq⟩,tI⟩,hv⟩
theorem qwS (h:Fn 69 1 [moS 0 s n d,.pv (qa5 a)] [(0,0,qad s)] (.pv (.tuple #[.agg #[iV 0,iV 0,.slice none 0 0],.agg #[iV 12,iV 0,iV 0,iV 0,iV 0,.slice none 0 0]])) 0 []) {n' d':Int} {s':List Pt}:Done s n d a (qiO 12) n' d' s':=
 .non (by decide) 0 0 (qeI h fun β v hv=>⟨[_,_],⟨rfl,⟨[iV 12,iV 0,iV 0,iV 0,iV 0,.slice none 0 0],⟨rfl,rfl,rfl,rfl,rfl,qiA,tI⟩,rfl⟩,tI⟩,hv⟩)
end
end Go.Proofs.YtleaeldgaflmkaaGreat

namespace Go.Proofs.YtleaeldgaflmkaaGreat
set_option maxRecDepth 100000
open Go.RowKit
section
variable {s:List Pt} {n d:Int}
theorem qwl (hv:Val s):Fn 21 1 [moS 0 s n d] [(0,0,qad s)] (moS 1 s n d) 1 [(1,0,qad s)]:=vtw (ht:=qjK (by have:=hv.len;omega))
theorem qcM {a:AskQ} (hv:Val s) (ha:AskT n d) {e:Int} (he:e≠0) (hee:e=qfN s n d a) (hr:qpJ s n d a (qiO e) n d s) (hp:Done s n d a (qiO e) n d s) (h1:a.kd=1→wfB a=true→¬ (okP a.pi a.pa a.pb=true∧(∀ p∈s,p.id≠a.pi)∧s.length<64)) (h4:a.kd=4→wfB a=true→¬ (AskT a.qn a.qd∧n*a.qd<a.qn*d))
 (h5:a.kd=5→wfB a=true→s=[]∧e=42) (h6:a.kd=6→wfB a=true→s.length<2∧e=42):Outc s n d a (qiO e) n d s where
 val:=hv
 ask:=ha
 few:=Nat.zero_le _
 ee:=hee
 keep:=fun _=>⟨rfl,rfl,rfl⟩
 err:=fun _=>⟨rfl,rfl,rfl,rfl⟩
 ref:=hr
 prg:=hp
 k1:=fun x y z u v=>(h1 x y ⟨z,u,v⟩).elim
 k4:=fun x y z u=>(h4 x y ⟨z,u⟩).elim
 k5:=fun x y=>Or.inl (h5 x y)
 k6:=fun x y=>Or.inl (h6 x y)
section
variable {pi pa pb z qn qd:Int}
open Classical in
theorem qf2 (hw:wfB ⟨1,pi,pa,pb,z,qn,qd⟩=true):qfN s n d ⟨1,pi,pa,pb,z,qn,qd⟩=if ¬ okP pi pa pb=true then 8 else if ∃ p∈s,p.id=pi then 14 else if s.length=64 then 18 else 0:=by
 unfold qfN
 rw[if_neg (by rw[hw];intro h;cases h),if_pos rfl]
open Classical in
theorem qnk (hw:wfB ⟨2,pi,pa,pb,z,qn,qd⟩=true):qfN s n d ⟨2,pi,pa,pb,z,qn,qd⟩=if ∃ p∈s,p.id=z then 0 else 6:=by
 unfold qfN
 rw[if_neg (by rw[hw];intro h;cases h),if_neg (by intro h;cases h),if_pos rfl]
open Classical in
theorem qjl (hw:wfB ⟨3,pi,pa,pb,z,qn,qd⟩=true):qfN s n d ⟨3,pi,pa,pb,z,qn,qd⟩=if ¬ okP pi pa pb=true then 8 else if ∃ p∈s,p.id=pi then 0 else 6:=by
 unfold qfN
 rw[if_neg (by rw[hw];intro h;cases h),if_neg (by intro h;cases h),if_neg (by intro h;cases h),if_pos rfl]
theorem qdz (hw:wfB ⟨4,pi,pa,pb,z,qn,qd⟩=true):qfN s n d ⟨4,pi,pa,pb,z,qn,qd⟩=if qdk qn qd≠0 then qdk qn qd else if n*qd<qn*d then 0 else 44:=by
 unfold qfN
 rw[if_neg (by rw[hw];intro h;cases h),if_neg (by intro h;cases h),if_neg (by intro h;cases h),if_neg (by intro h;cases h),if_pos rfl]
open Classical in
theorem qnz (hw:wfB ⟨5,pi,pa,pb,z,qn,qd⟩=true):qfN s n d ⟨5,pi,pa,pb,z,qn,qd⟩=if s=[] then 42 else 0:=by
 unfold qfN
 rw[if_neg (by rw[hw];intro h;cases h),if_neg (by intro h;cases h),if_neg (by intro h;cases h),if_neg (by intro h;cases h),if_neg (by intro h;cases h),if_pos rfl]
theorem qn3 (hw:wfB ⟨6,pi,pa,pb,z,qn,qd⟩=true):qfN s n d ⟨6,pi,pa,pb,z,qn,qd⟩=if s.length<2 then 42 else 0:=by
 unfold qfN
 rw[if_neg (by rw[hw];intro h;cases h),if_neg (by intro h;cases h),if_neg (by intro h;cases h),if_neg (by intro h;cases h),if_neg (by intro h;cases h),if_neg (by intro h;cases h)]
end
theorem qgr (a:AskQ) (hv:Val s) (ht:AskT n d) (hq:I64 a.qn∧I64 a.qd):∃ r n' d' s',Outc s n d a r n' d' s':=by
 obtain⟨kd,pi,pa,pb,z,qn,qd⟩:=a
 obtain⟨w1,w2⟩:=qrK ⟨kd,pi,pa,pb,z,qn,qd⟩
 have tw:=qwl (n:=n) (d:=d) hv
 obtain⟨i1,i2,i3⟩:=ht.in
 have tm:Tm n d:=⟨i1,i2,ht.ok⟩
 have e0:qb4 s=0:=qbd.2 hv
 by_cases hn:¬ wfB ⟨kd,pi,pa,pb,z,qn,qd⟩=true
 ·have hw:=hn
  have hw':=Bool.not_eq_true _ |>.mp hn
  rw[hw'] at w1 w2
  exact⟨_,_,_,_,qcM hv ht (by decide) (by unfold qfN;rw[if_pos hw']) (qcn (qyh (hw:=w2) (ht:=tw))) (qwS (qya (hw:=w1))) (fun _ h=>(hw h).elim) (fun _ h=>(hw h).elim) (fun _ h=>(hw h).elim) (fun _ h=>(hw h).elim)⟩
 have hw:=Classical.not_not.1 hn
 rw[hw] at w1 w2
 by_cases h1:kd=1
 ·subst h1
  rcases qsS s pi pa pb with ⟨e,p1,p2,hr⟩ | ⟨k,_,g1,g2,g3,g4,g5,g6,p1,p2⟩
  ·have he:e≠0:=by rcases hr with ⟨h,_⟩ | ⟨_,_,h⟩ | ⟨_,_,_,h⟩ | ⟨_,_,_,_,h⟩<;>omega
   refine⟨_,_,_,_,qcM hv ht he (by
    rw[qf2 hw]
    rcases hr with ⟨h,_⟩ | ⟨_,h,h9⟩ | ⟨_,k1,k2,h9⟩ | ⟨_,k1,k2,k3,h9⟩
    ·exact (h e0).elim
    ·rw[if_pos h];exact h9
    ·rw[if_neg (fun q=>q k1),if_pos k2];exact h9
    ·rw[if_neg (fun q=>q k1),if_neg (fun ⟨p,hp,e⟩=>k2 p hp e),if_pos k3];exact h9) (qcn (qvg (hw:=w2) (hc:=qwg (hp:=p2) (he:=by simpa using he) (ht:=tw)))) (.non he n d (qvW (hw:=w1) (hp:=p1))) (fun _ _ ⟨a1,a2,a3⟩=>?_) (fun h=>by cases h) (fun h=>by cases h) (fun h=>by cases h)⟩
   rcases hr with ⟨h,_⟩ | ⟨_,h,_⟩ | ⟨_,_,⟨p,hp,h⟩,_⟩ | ⟨_,_,_,h,_⟩
   ·exact h e0
   ·exact h a1
   ·exact a2 p hp h
   ·omega
  ·refine⟨qiO 0,n,d,_,⟨qtE hv g2 g1 g4 g5 g6,ht,Nat.zero_le _,(by rw[qf2 hw,if_neg (fun q=>q g1),if_neg (fun ⟨p,hp,e⟩=>g3 p hp e),if_neg (by omega)]),(fun h=>(by rcases h with h | h<;>cases h)),fun h=>(h rfl).elim,qcn (quU (hw:=w2) (hc:=qv3 (hp:=p2))),.new rfl (qvf (hw:=w1) (hp:=p1)),fun _ _ _ _ _=>⟨rfl,rfl,rfl,?_⟩,(fun h=>by cases h),(fun h=>by cases h),(fun h=>by cases h)⟩⟩
   exact (qov (p:=⟨pi,pa,pb⟩) g4 g5 g6).symm
 by_cases h2:kd=2
 ·subst h2
  rcases qpv s z with ⟨e,p1,p2,hr⟩ | ⟨k,p,_,g1,g2,p1,p2⟩
  ·have he:e≠0:=by rcases hr with ⟨h,_⟩ | ⟨_,_,h⟩<;>omega
   exact⟨_,_,_,_,qcM hv ht he (by
    rw[qnk hw]
    rcases hr with ⟨h,_⟩ | ⟨_,h,h9⟩
    ·exact (h e0).elim
    ·rw[if_neg (fun ⟨p,hp,e⟩=>h p hp e)];exact h9) (qcn (qw2 (hw:=w2) (hc:=qwB (hp:=p2) (he:=by simpa using he) (ht:=tw)))) (.non he n d (quL (hw:=w1) (hp:=p1))) (fun h=>by cases h) (fun h=>by cases h) (fun h=>by cases h) (fun h=>by cases h)⟩
  ·exact⟨qiO 0,n,d,_,⟨qpa hv (qaw g1),ht,Nat.zero_le _,(by rw[qnk hw,if_pos ⟨p,List.mem_of_getElem? g1,g2⟩]),(fun h=>(by rcases h with h | h<;>cases h)),fun h=>(h rfl).elim,qcn (quP (hw:=w2) (hc:=qvh (hp:=p2))),.new rfl (qwI (hw:=w1) (hp:=p1)),(fun h=>by cases h),(fun h=>by cases h),(fun h=>by cases h),(fun h=>by cases h)⟩⟩
 by_cases h3:kd=3
 ·subst h3
  rcases qkl s pi pa pb with ⟨e,p1,p2,hr⟩ | ⟨k,p,_,g1,g2,g3,p1,p2⟩
  ·have he:e≠0:=by rcases hr with ⟨h,_⟩ | ⟨_,_,h⟩ | ⟨_,_,_,h⟩<;>omega
   exact⟨_,_,_,_,qcM hv ht he (by
    rw[qjl hw]
    rcases hr with ⟨h,_⟩ | ⟨_,h,h9⟩ | ⟨_,k1,k2,h9⟩
    ·exact (h e0).elim
    ·rw[if_pos h];exact h9
    ·rw[if_neg (fun q=>q k1),if_neg (fun ⟨p,hp,e⟩=>k2 p hp e)];exact h9) (qcn (qvm (hw:=w2) (hc:=qw1 (hp:=p2) (he:=by simpa using he) (ht:=tw)))) (.non he n d (qvR (hw:=w1) (hp:=p1))) (fun h=>by cases h) (fun h=>by cases h) (fun h=>by cases h) (fun h=>by cases h)⟩
  ·exact⟨qiO 0,n,d,_,⟨qt0 hv g2 g3 g1,ht,Nat.zero_le _,(by rw[qjl hw,if_neg (fun q=>q g1),if_pos ⟨p,List.mem_of_getElem? g2,g3⟩]),(fun h=>(by rcases h with h | h<;>cases h)),fun h=>(h rfl).elim,qcn (qwD (hw:=w2) (hc:=qv6 (hp:=p2))),.new rfl (qvj (hw:=w1) (hp:=p1)),(fun h=>by cases h),(fun h=>by cases h),(fun h=>by cases h),(fun h=>by cases h)⟩⟩
 by_cases h4:kd=4
 ·subst h4
  have c1:Pure Tryz.prog 40 #[qaa qn qd] (iV (qdk qn qd)):=fun w=>qb1 qn qd w hq.1 hq.2
  have c2:Pure Tryz.prog 31 #[qaa qn qd] (iV (qdk qn qd)):=fun w=>qe6 qn qd w hq.1 hq.2
  by_cases ha:qdk qn qd=0
  ·have hT:=qbb.1 ha
   rw[ha] at c1 c2
   have k1:=qjc hq.1 hq.2 i1 i2 hT.ok ht.ok
   have k2:=qbF hq.1 hq.2 i1 i2
   by_cases hl:(qn*d-n*qd).sign≤0
   ·have hl':qn*d-n*qd≤0:=Int.sign_nonpos_iff.1 hl
    exact⟨_,_,_,_,qcM hv ht (e:=44) (by decide) (by rw[qdz hw,if_neg (fun q=>q ha),if_neg (by omega)]) (qcn (qrc (hw:=w2) (hm:=qzp (ha:=c2) (hc:=k2) (hl:=dt hl) (ht:=tw)))) (.err (by decide) qn qd (qrv (hw:=w1) (hb:=qyW (ha:=c1) (hc:=k1) (hl:=dt hl)))) (fun h=>by cases h) (fun _ _ ⟨_,h⟩=>by simp only at h;omega) (fun h=>by cases h) (fun h=>by cases h)⟩
   ·have hl':¬ qn*d-n*qd≤0:=fun q=>hl (Int.sign_nonpos_iff.2 q)
    have hm:=qvw i1 i2 hq.1 hq.2 s (by unfold mE;rw[if_pos e0,if_pos ⟨ht.ok,hT.ok⟩,if_neg (by show ¬ n*qd-qn*d>0;omega)])
    have hb:=qhe i1 i2 hq.1 hq.2 hv
    exact⟨⟨0,0,0,0,0,qjx s n d qn qd⟩,qn,qd,s,⟨hv,hT,(by have:=qjq hv n d qn qd;show (qjx s n d qn qd).length≤100000;omega),(by rw[qdz hw,if_neg (fun q=>q ha),if_pos (by omega)]),(fun h=>(by rcases h with h | h<;>cases h)),fun h=>(h rfl).elim,qvr (qvq (hw:=w2) (hm:=qxO (ha:=c2) (hc:=k2) (hl:=df hl) (ht:=tw) (hb:=hb))),.old rfl rfl (qw0 (hw:=w1) (hb:=qxI (ha:=c1) (hc:=k1) (hl:=df hl) (hm:=hm))),(fun h=>by cases h),fun _ _ _ _=>⟨rfl,rfl,rfl,rfl⟩,(fun h=>by cases h),(fun h=>by cases h)⟩⟩
  ·have ha':(qdk qn qd !=0)=true:=by simpa using ha
   exact⟨_,_,_,_,qcM hv ht ha (by rw[qdz hw,if_pos ha]) (qcn (qrc (hw:=w2) (hm:=qzo (ha:=c2) (he:=ha') (ht:=tw)))) (.err ha qn qd (qrv (hw:=w1) (hb:=qyk (ha:=c1) (he:=ha')))) (fun h=>by cases h) (fun _ _ ⟨h,_⟩=>ha (qbb.2 h)) (fun h=>by cases h) (fun h=>by cases h)⟩
 by_cases h5:kd=5
 ·subst h5
  by_cases hs:s=[]
  ·subst hs
   exact⟨_,_,_,_,qcM hv ht (e:=42) (by decide) (by rw[qnz hw,if_pos rfl]) (qcn (qvX (hw:=w2) (hl:=by decide) (ht:=tw))) (.err (by decide) n d (qu1 (hw:=w1) (hl:=qyC (hl:=qhb tm) (he:=by decide)))) (fun h=>by cases h) (fun h=>by cases h) (fun _ _=>⟨rfl,rfl⟩) (fun h=>by cases h)⟩
  ·have hm:=qnH hv n d hs
   obtain⟨k,hk⟩:=List.getElem?_of_mem hm
   have hp:=hv.ok _ hm
   obtain⟨N,D,E,f1,f2,f3,f4,f5⟩:=qro hp ht
   obtain⟨N',D',g1,g2,g3,g4,g5⟩:=qn8 hp ht
   have hmk:=qhP (a:=plS (ldr s n d) n d) (b:=d) (by omega)
   obtain⟨a1,a2,_⟩:=hmk.one (by omega) f1 f2 f3 f4
   obtain⟨b1,b2,_⟩:=hmk.one (by omega) g1 g2 g3 g4
   obtain rfl:=a1.symm.trans b1
   obtain rfl:=a2.symm.trans b2
   obtain⟨o,ho⟩:=qez (tn:=n) (td:=d) hv
   have hor:=qiz hv tm ho
   have h0:=qg3 ho hs
   have hl:0<s.length:=List.length_pos_iff.2 hs
   have c1:=qaF s
   rw[e0] at c1
   have F1:=qmF hk (qaB (qaw hk)) c1 (qdH hv hk rfl)
   refine⟨⟨0,(ldr s n d).id,0,N,D,[]⟩,n,d,s,⟨hv,ht,Nat.zero_le _,(by rw[qnz hw,if_neg hs]),(fun _=>⟨rfl,rfl,rfl⟩),fun h=>(h rfl).elim,qcn (qwJ (k:=k) (g:=o.map Pt.id) (hw:=w2) (hl:=by simpa using hs) (h0:=⟨by omega,by omega⟩) (hg:=by rw[List.getElem?_map,h0];rfl) (ho:=hor) (ht:=tw) (hk:=qjT hv hk rfl) (hk1:=⟨by omega,by have:=qaw hk;omega⟩) (hk2:=hk) (hq:=g5)),.old rfl rfl (qu1 (hw:=w1) (hl:=qxx (hl:=qkY hv tm hs) (hf:=F1) (hp:=f5))),(fun h=>by cases h),(fun h=>by cases h),fun _ _=>Or.inr ⟨hs,N,D,rfl,f1,f2,f3,f4⟩,(fun h=>by cases h)⟩⟩
 by_cases h6:kd=6
 ·subst h6
  obtain⟨i,j,N,D,e,hc,hz,cl⟩:=qi6 (s:=s) i1 i2
  by_cases h2:s.length<2
  ·have he:e=42:=by
    rcases hc with ⟨h,_⟩ | ⟨_,h,_⟩ | ⟨_,_,_,h⟩ | ⟨_,_,h,_⟩
    ·exact (h e0).elim
    ·exact (h (qbb.2 ht)).elim
    ·exact h
    ·omega
   subst he
   obtain⟨rfl,rfl,rfl,rfl⟩:=hz (by decide)
   exact⟨_,_,_,_,qcM hv ht (e:=42) (by decide) (by rw[qn3 hw,if_pos h2]) (qcn (quZ (hw:=w2) (hl:=dt (by omega)) (ht:=tw))) (.err (by decide) n d (qv1 (hw:=w1) (hl:=cl))) (fun h=>by cases h) (fun h=>by cases h) (fun h=>by cases h) (fun _ _=>⟨h2,rfl⟩)⟩
  ·obtain⟨he,hi,hj,hD⟩:e=0∧i=(ptK s (qbC s n d).1).id∧j=(ptK s (qbC s n d).2).id∧DisI s n d (qbC s n d) N D:=by
    rcases hc with ⟨h,_⟩ | ⟨_,h,_⟩ | ⟨_,_,h,_⟩ | ⟨_,_,_,h⟩
    ·exact (h e0).elim
    ·exact (h (qbb.2 ht)).elim
    ·omega
    ·exact h
   subst he hi hj
   obtain⟨N',D',j1,_,rp⟩:=qyD hv.ok ht (by have:=hv.len;omega) (by omega)
   obtain⟨rfl,rfl⟩:=DisI.uniq i3 hD j1
   exact⟨⟨0,_,_,N,D,[]⟩,n,d,s,⟨hv,ht,Nat.zero_le _,(by rw[qn3 hw,if_neg h2]),(fun _=>⟨rfl,rfl,rfl⟩),fun h=>(h rfl).elim,qcn (qvN (hw:=w2) (hl:=df (by omega)) (hp:=rp) (ht:=tw)),.old rfl rfl (qv1 (hw:=w1) (hl:=cl)),(fun h=>by cases h),(fun h=>by cases h),(fun h=>by cases h),fun _ _=>Or.inr ⟨by show 2≤s.length;omega,N,D,rfl,hD⟩⟩⟩
 ·exfalso
  have:wfB ⟨kd,pi,pa,pb,z,qn,qd⟩=false:=by simp[wfB,h1,h2,h3,h4,h5,h6]
  rw[this] at hw
  cases hw
end
end Go.Proofs.YtleaeldgaflmkaaGreat

namespace Go.Proofs.YtleaeldgaflmkaaGreat
set_option maxRecDepth 100000
open Go.RowKit
def qc1:List AskQ→List Value
 | []=>[]
 | a::r=>.int .u8 a.kd::iV a.pi::iV a.pa::iV a.pb::iV a.z::iV a.qn::iV a.qd::qc1 r
abbrev qfz (qs:List AskQ):SV:=.row 42 7 qs.length (qc1 qs)
abbrev qeK (r:Rep):List Dn:=[.v (iV r.e),.v (iV r.id),.v (iV r.ot),.v (iV r.n),.v (iV r.d),.sl 4 r.ms.length ((msV r.ms).map .v)]
theorem qsL (r:Rep):qpW (qeK r) 0 (qeK r):=fun j d h=>by rw[Nat.zero_add];exact h
theorem qhg:∀ {l:List AskQ} {k:Nat} {a:AskQ},l[k]?=some a→(qc1 l)[k*7]?=some (.int .u8 a.kd)∧(qc1 l)[k*7+1]?=some (iV a.pi)∧(qc1 l)[k*7+2]?=some (iV a.pa)∧(qc1 l)[k*7+3]?=some (iV a.pb)∧(qc1 l)[k*7+4]?=some (iV a.z)∧(qc1 l)[k*7+5]?=some (iV a.qn)∧(qc1 l)[k*7+6]?=some (iV a.qd)
 | [],k,p,h=>by simp at h
 | q::r,0,p,h=>by simp at h;subst h;exact⟨rfl,rfl,rfl,rfl,rfl,rfl,rfl⟩
 | q::r,k+1,p,h=>by
  have:=qhg (l:=r) (k:=k) (a:=p) (by simpa using h)
  rw[show (k+1)*7=k*7+1+1+1+1+1+1+1 by omega]
  exact this
theorem qeq {l:List AskQ} {k:Nat} {a:AskQ} (h:l[k]?=some a):qes (qc1 l) (0*7+k*7) [.int .u8 a.kd,iV a.pi,iV a.pa,iV a.pb,iV a.z,iV a.qn,iV a.qd]:=by
 obtain⟨h0,h1,h2,h3,h4,h5,h6⟩:=qhg h
 intro j v hj
 rw[show 0*7+k*7+j=k*7+j by omega]
 match j,hj with
 | 0,hj=>cases hj;exact h0
 | 1,hj=>cases hj;exact h1
 | 2,hj=>cases hj;exact h2
 | 3,hj=>cases hj;exact h3
 | 4,hj=>cases hj;exact h4
 | 5,hj=>cases hj;exact h5
 | 6,hj=>cases hj;exact h6
 | j+7,hj=>simp at hj
end Go.Proofs.YtleaeldgaflmkaaGreat

namespace Go.Proofs.YtleaeldgaflmkaaGreat
set_option maxRecDepth 100000
open Go.RowKit
theorem qrT (t t':TypeId) (es n:Nat) (xs:List Value):some (SV.prow t' es n xs)=some (SV.row t es n xs)∨∃ t1 es1 n1 xs1,SV.row t es n xs=.row t1 es1 n1 xs1∧∃ t2,some (SV.prow t' es n xs)=some (.prow t2 es1 n1 xs1):=Or.inr ⟨t,es,n,xs,rfl,t',rfl⟩
theorem qju (a b:Int):(a==a&&(b==b&&true))=true:=by simp
theorem qxN {rp:Rep} (hs:Fn 34 2 [.ls 0 rp.ms.length,.ls 1 rp.ms.length] [(0,0,.row 95 4 rp.ms.length (msV rp.ms)),(1,0,.row 95 4 rp.ms.length (msV rp.ms))] (.pv (.bool true)) 0 []) :
 Fn 26 0 [.ag (qdV rp),.ag (qdV rp)] [] (.pv (.bool true)) 0 []:=
 Fz [] [.od true 0 0 5 95 (some (msV rp.ms)),.od true 1 0 5 95 (some (msV rp.ms)),.t true,.t true,.t true,.t true,.fq [0,1] [.ls 0 rp.ms.length,.ls 1 rp.ms.length] [(0,0,.row 95 4 rp.ms.length (msV rp.ms)),(1,0,.row 95 4 rp.ms.length (msV rp.ms))] (.pv (.bool true)) 0 []]
  tI (Ai (Eq.refl ((msV rp.ms).map Dn.v)) (Ai (Eq.refl ((msV rp.ms).map Dn.v)) (Ai (qgo rp.e) (Ai (qgo rp.id) (Ai (qgo rp.ot) (Ai (qju rp.n rp.d) (Ai hs (Ai (Ca hs [0,1] 4) (Ai (Ai (qrT 95 95 4 rp.ms.length (msV rp.ms)) (Ai (qrT 95 95 4 rp.ms.length (msV rp.ms)) tI)) tI)))))))))
theorem qys {tn td:Int} {s:List Pt} (hs:Fn 49 2 [qaq 0 s,qaq 1 s] [(0,0,qad s),(1,0,qad s)] (.pv (.bool true)) 0 []) :
 Fn 24 2 [moS 0 s tn td,moS 1 s tn td] [(0,0,qad s),(1,0,qad s)] (.pv (.bool true)) 0 []:=
 Fz [] [.t true,Cf hs [0,1]]
  tI (Ai (qju tn td) (Co hs [0,1] 4 tI))
end Go.Proofs.YtleaeldgaflmkaaGreat

namespace Go.Proofs.YtleaeldgaflmkaaGreat
set_option maxRecDepth 100000
open Go.RowKit
theorem qqM (x:Int):(x !=x)=false:=by simp
end Go.Proofs.YtleaeldgaflmkaaGreat

namespace Go.Proofs.YtleaeldgaflmkaaGreat
set_option maxRecDepth 100000
open Go.RowKit
theorem qze {tn td:Int} {s0:List Pt} {qs:List AskQ} (hc:Fn 14 1 [moS 0 s0 tn td] [(0,0,qad s0)] (.pv (iV (0))) 0 []) (hl:decide ((qs.length:Int)>120)=true) :
 Fn 13 2 [moS 0 s0 tn td,.ls 1 qs.length] [(0,0,qad s0),(1,0,qfz qs)] (.pv (.tuple #[.agg #[iV 0,iV 0,.slice none 0 0],.slice none 0 0,iV 4])) 0 []:=
 Fz [] [Cf hc [0],.k,.t true]
  tI (Co hc [0] 4 (Ai hl tI))
theorem qwU {tn td n' d':Int} {s' s0:List Pt} {qs:List AskQ} {k:Nat} {ds:List Dn} (hc:Fn 14 1 [moS 0 s0 tn td] [(0,0,qad s0)] (.pv (iV (0))) 0 []) (hl:decide ((qs.length:Int)>120)=false) (hr:Fn 42 2 [moS 0 s0 tn td,.ls 1 qs.length] [(0,0,qad s0),(1,0,qfz qs)] (.tu [mo1 2 s' n' d',.one (.dv 6 k ds)]) 1 [(2,0,qad s')]) :
 Fn 13 2 [moS 0 s0 tn td,.ls 1 qs.length] [(0,0,qad s0),(1,0,qfz qs)] (.tu [mo1 2 s' n' d',.one (.dv 6 k ds),.one (.pv (iV 0))]) 1 [(2,0,qad s')]:=
 Fz [(2,4)] [Cf hc [0],.k,.t false,Cf hr [0,1]]
  (qaH (qaG [(2,4)]) [(2,0,qad s')]) (Co hc [0] 4 (Ai hl (Co hr [0,1] 4 tI)))
end Go.Proofs.YtleaeldgaflmkaaGreat

namespace Go.Proofs.YtleaeldgaflmkaaGreat
set_option maxRecDepth 100000
open Go.RowKit
theorem qyJ {tn td e1 e2:Int} {s:List Pt} (ha:Pure Tryz.prog 40 #[qaa tn td] (iV (e1))) (hc:Fn 44 1 [qaq 0 s] [(0,0,qad s)] (.pv (iV (e2))) 0 []) (he:(e1 !=0)=true) :
 Fn 14 1 [moS 0 s tn td] [(0,0,qad s)] (.pv (iV (8))) 0 []:=
 Fz [] [.md,Rf ha,Cf hc [0],.k,.k,.t true,.t true]
  tI (Ai ha (Co hc [0] 2 (Ai he (Ai he tI))))
theorem qyE {tn td e2:Int} {s:List Pt} (ha:Pure Tryz.prog 40 #[qaa tn td] (iV (0))) (hc:Fn 44 1 [qaq 0 s] [(0,0,qad s)] (.pv (iV (e2))) 0 []) (he:(e2 !=0)=true) :
 Fn 14 1 [moS 0 s tn td] [(0,0,qad s)] (.pv (iV (8))) 0 []:=
 Fz [] [.md,Rf ha,Cf hc [0],.k,.k,.k,.k,.k,.t true,.t true]
  tI (Ai ha (Co hc [0] 2 (Ai he (Ai he tI))))
theorem qyn {tn td:Int} {s:List Pt} (ha:Pure Tryz.prog 40 #[qaa tn td] (iV (0))) (hc:Fn 44 1 [qaq 0 s] [(0,0,qad s)] (.pv (iV (0))) 0 []) :
 Fn 14 1 [moS 0 s tn td] [(0,0,qad s)] (.pv (iV (0))) 0 []:=
 Fz [] [.md,Rf ha,Cf hc [0],.k,.k,.k,.k,.k,.k,.k,.k,.k]
  tI (Ai ha (Co hc [0] 2 tI))
theorem qxJ {tn td n' d':Int} {s s':List Pt} {rp:Rep} {aq:AskQ} (hc:Fn 14 1 [moS 0 s tn td] [(0,0,qad s)] (.pv (iV (0))) 0 []) (hr:Fn 42 2 [moS 0 s tn td,.ls 1 1] [(0,0,qad s),(1,0,qfz [aq])] (.tu [mo1 2 s' n' d',.one (.dv 6 1 (qeK rp))]) 1 [(2,0,qad s')]) (h0:0≤(0:Int)∧(0:Int)<(1:Int)) :
 Fn 12 1 [moS 0 s tn td,.pv (qa5 aq)] [(0,0,qad s)] (.tu [mo1 1 s' n' d',.ag (qdV rp),.one (.pv (iV 0))]) 1 [(1,0,qad s')]:=
 Fz [(1,6)] [Cf hc [0],.k,.lw,Cf hr [0,5],.od true 9 0 0 38 none,.md,.dr (qdV rp)]
  (qaH (qaG [(1,6)]) [(1,0,qad s')]) (Co hc [0] 5 (Co hr [0,5] 6 (Ai h0 (Ai (qsL rp) tI))))
end Go.Proofs.YtleaeldgaflmkaaGreat
