/-
  Joined: Vj, Vp, Vq, Vr0, Vt, Vu, Vs, Vr. Conditions: none.
-/
import Derived.Test.YtleaeldgaflmkaaGreatW45
import Derived.Test.YtleaeldgaflmkaaGreatW25
import Derived.Test.YtleaeldgaflmkaaGreatW35
import Derived.Test.YtleaeldgaflmkaaGreatW28
import Derived.Test.YtleaeldgaflmkaaGreatW36
import Derived.Test.YtleaeldgaflmkaaGreatW37
import Derived.Test.YtleaeldgaflmkaaGreatW33
namespace Go.Proofs.YtleaeldgaflmkaaGreat
set_option maxRecDepth 100000
open Go.RowKit
theorem qzh {pi pa pb z qn qd:Int} {w:Bool} (hf:((1:Int)==1&&((pi==pi&&(pa==pa&&(pb==pb&&true)))&&((z==0)&&((qn==0&&(qd==0&&true))&&true))))=w) :
 Pure Tryz.prog 72 #[.agg #[.int .u8 1,iV pi,iV pa,iV pb,iV z,iV qn,iV qd]] (.bool w):=
 qac (args:=[.agg #[.int .u8 1,iV pi,iV pa,iV pb,iV z,iV qn,iV qd]]) 300 [.k,.t w]
  (Ai rfl (Ai hf tI)) (by kernel_rfl)
theorem qx2 {pi pa pb z qn qd:Int} {w:Bool} (hf:((2:Int)==2&&((pi==0&&(pa==0&&(pb==0&&true)))&&((z==z)&&((qn==0&&(qd==0&&true))&&true))))=w) :
 Pure Tryz.prog 72 #[.agg #[.int .u8 2,iV pi,iV pa,iV pb,iV z,iV qn,iV qd]] (.bool w):=
 qac (args:=[.agg #[.int .u8 2,iV pi,iV pa,iV pb,iV z,iV qn,iV qd]]) 300 [.k,.k,.k,.t w]
  (Ai rfl (Ai hf tI)) (by kernel_rfl)
theorem qza {pi pa pb z qn qd:Int} {w:Bool} (hf:((3:Int)==3&&((pi==pi&&(pa==pa&&(pb==pb&&true)))&&((z==0)&&((qn==0&&(qd==0&&true))&&true))))=w) :
 Pure Tryz.prog 72 #[.agg #[.int .u8 3,iV pi,iV pa,iV pb,iV z,iV qn,iV qd]] (.bool w):=
 qac (args:=[.agg #[.int .u8 3,iV pi,iV pa,iV pb,iV z,iV qn,iV qd]]) 300 [.k,.k,.t w]
  (Ai rfl (Ai hf tI)) (by kernel_rfl)
theorem qx5 {pi pa pb z qn qd:Int} {w:Bool} (hf:((4:Int)==4&&((pi==0&&(pa==0&&(pb==0&&true)))&&((z==0)&&((qn==qn&&(qd==qd&&true))&&true))))=w) :
 Pure Tryz.prog 72 #[.agg #[.int .u8 4,iV pi,iV pa,iV pb,iV z,iV qn,iV qd]] (.bool w):=
 qac (args:=[.agg #[.int .u8 4,iV pi,iV pa,iV pb,iV z,iV qn,iV qd]]) 300 [.k,.k,.k,.k,.t w]
  (Ai rfl (Ai hf tI)) (by kernel_rfl)
theorem qyi {pi pa pb z qn qd:Int} {w:Bool} (hf:((5:Int)==5&&((pi==0&&(pa==0&&(pb==0&&true)))&&((z==0)&&((qn==0&&(qd==0&&true))&&true))))=w) :
 Pure Tryz.prog 72 #[.agg #[.int .u8 5,iV pi,iV pa,iV pb,iV z,iV qn,iV qd]] (.bool w):=
 qac (args:=[.agg #[.int .u8 5,iV pi,iV pa,iV pb,iV z,iV qn,iV qd]]) 300 [.k,.k,.k,.k,.k,.t w]
  (Ai rfl (Ai hf tI)) (by kernel_rfl)
theorem qyp {pi pa pb z qn qd:Int} {w:Bool} (hf:((6:Int)==6&&((pi==0&&(pa==0&&(pb==0&&true)))&&((z==0)&&((qn==0&&(qd==0&&true))&&true))))=w) :
 Pure Tryz.prog 72 #[.agg #[.int .u8 6,iV pi,iV pa,iV pb,iV z,iV qn,iV qd]] (.bool w):=
 qac (args:=[.agg #[.int .u8 6,iV pi,iV pa,iV pb,iV z,iV qn,iV qd]]) 300 [.k,.k,.k,.k,.k,.k,.t w]
  (Ai rfl (Ai hf tI)) (by kernel_rfl)
theorem qxS {kd pi pa pb z qn qd:Int} (h1:(kd==1)=false) (h3:(kd==3)=false) (h2:(kd==2)=false) (h4:(kd==4)=false) (h5:(kd==5)=false) (h6:(kd==6)=false) :
 Pure Tryz.prog 72 #[.agg #[.int .u8 kd,iV pi,iV pa,iV pb,iV z,iV qn,iV qd]] (.bool false):=
 qac (args:=[.agg #[.int .u8 kd,iV pi,iV pa,iV pb,iV z,iV qn,iV qd]]) 300 [.t false,.t false,.t false,.t false,.t false,.t false]
  (Ai rfl (Ai h1 (Ai h3 (Ai h2 (Ai h4 (Ai h5 (Ai h6 tI))))))) (by kernel_rfl)
abbrev qnY (s:List Pt) (td:Int) (tn:Int):Prop:=Fn 21 1 [.ag [.pv (iV tn),.pv (iV td),.ls 0 s.length]] [(0,0,qad s)] (.ag [.pv (iV tn),.pv (iV td),.ls 1 s.length]) 1 [(1,0,qad s)]
theorem qxY {tn td e1 kd pi pa pb z qn qd:Int} {s:List Pt} (ha:Pure Tryz.prog 31 #[qaa qn qd] (iV (e1))) (he:(e1 !=0)=true) (ht:qnY s td tn) :
 Fn 73 1 [.ag [.pv (iV tn),.pv (iV td),.ls 0 s.length],.pv (.agg #[.int .u8 kd,iV pi,iV pa,iV pb,iV z,iV qn,iV qd])] [(0,0,qad s)] (.tu [.ag [.pv (iV tn),.pv (iV td),.ls 1 s.length],.one (.pv (.agg #[iV (e1),iV (0),iV (0),iV (0),iV (0),.slice none 0 0]))]) 1 [(1,0,qad s)]:=
 Fz [(1,5)] [Rf ha,.t true,Cf ht [0]]
  (qaH (qaF [(1,5)]) [(1,0,qad s)]) (Ai ha (Ai he (Co ht [0] 5 tI)))
theorem qxH {tn td e2 kd pi pa pb z qn qd:Int} {s:List Pt} (ha:Pure Tryz.prog 31 #[qaa qn qd] (iV (0))) (hc:Pure Tryz.prog 33 #[qaa qn qd,qaa tn td] (iV (e2))) (hl:decide (e2≤0)=true) (ht:qnY s td tn) :
 Fn 73 1 [.ag [.pv (iV tn),.pv (iV td),.ls 0 s.length],.pv (.agg #[.int .u8 kd,iV pi,iV pa,iV pb,iV z,iV qn,iV qd])] [(0,0,qad s)] (.tu [.ag [.pv (iV tn),.pv (iV td),.ls 1 s.length],.one (.pv (.agg #[iV (44),iV (0),iV (0),iV (0),iV (0),.slice none 0 0]))]) 1 [(1,0,qad s)]:=
 Fz [(1,5)] [Rf ha,.k,Rf hc,.t true,Cf ht [0]]
  (qaH (qaF [(1,5)]) [(1,0,qad s)]) (Ai ha (Ai hc (Ai hl (Co ht [0] 5 tI))))
theorem qxt {tn td e2 kd pi pa pb z qn qd:Int} {s:List Pt} {ms:List Mt} (ha:Pure Tryz.prog 31 #[qaa qn qd] (iV (0))) (hc:Pure Tryz.prog 33 #[qaa qn qd,qaa tn td] (iV (e2))) (hl:decide (e2≤0)=false) (ht:qnY s td tn) (hb:Fn 103 1 [qaq 0 s,.pv (qaa tn td),.pv (qaa qn qd)] [(0,0,qad s)] (.ls 1 ms.length) 1 [(1,0,.row 95 4 ms.length (msV ms))]) :
 Fn 73 1 [.ag [.pv (iV tn),.pv (iV td),.ls 0 s.length],.pv (.agg #[.int .u8 kd,iV pi,iV pa,iV pb,iV z,iV qn,iV qd])] [(0,0,qad s)] (.tu [.ag [.pv (iV qn),.pv (iV qd),.ls 1 s.length],.ag [.pv (iV 0),.pv (iV 0),.pv (iV 0),.pv (iV 0),.pv (iV 0),.ls 2 ms.length]]) 2 [(1,0,qad s),(2,0,.row 95 4 ms.length (msV ms))]:=
 Fz [(1,5),(2,7)] [Rf ha,.k,Rf hc,.t false,Cf ht [0],.md,Cf hb [0]]
  (qaH (qaF [(1,5),(2,7)]) [(1,0,qad s),(2,0,.row 95 4 ms.length (msV ms))]) (Ai ha (Ai hc (Ai hl (Co ht [0] 5 (Co hb [0] 7 tI)))))
theorem qwo {tn td e1 pi pa pb z qn qd:Int} {s:List Pt} (hp:Fn 107 1 [qaq 0 s,.pv (qab pi pa pb)] [(0,0,qad s)] (.pv (.tuple #[.agg #[.slice none 0 0],iV e1])) 0 []) (he:(e1 !=0)=true) (ht:qnY s td tn) :
 Fn 78 1 [.ag [.pv (iV tn),.pv (iV td),.ls 0 s.length],.pv (.agg #[.int .u8 1,iV pi,iV pa,iV pb,iV z,iV qn,iV qd])] [(0,0,qad s)] (.tu [.ag [.pv (iV tn),.pv (iV td),.ls 1 s.length],.one (.pv (iV e1))]) 1 [(1,0,qad s)]:=
 Fz [(1,5)] [.k,Cf hp [0],.t true,Cf ht [0]]
  (qaH (qaF [(1,5)]) [(1,0,qad s)]) (Co hp [0] 5 (Ai he (Co ht [0] 5 tI)))
theorem qvw {tn td pi pa pb z qn qd:Int} {s m:List Pt} (hp:Fn 107 1 [qaq 0 s,.pv (qab pi pa pb)] [(0,0,qad s)] (.tu [.ag [.ls 1 m.length],.one (.pv (iV 0))]) 1 [(1,0,qad m)]) :
 Fn 78 1 [.ag [.pv (iV tn),.pv (iV td),.ls 0 s.length],.pv (.agg #[.int .u8 1,iV pi,iV pa,iV pb,iV z,iV qn,iV qd])] [(0,0,qad s)] (.tu [.ag [.pv (iV tn),.pv (iV td),.ls 1 m.length],.one (.pv (iV 0))]) 1 [(1,0,qad m)]:=
 Fz [(1,5)] [.k,Cf hp [0],.k]
  (qaH (qaF [(1,5)]) [(1,0,qad m)]) (Co hp [0] 5 tI)
theorem qwm {tn td e1 pi pa pb z qn qd:Int} {s:List Pt} (hp:Fn 108 1 [qaq 0 s,.pv (iV z)] [(0,0,qad s)] (.pv (.tuple #[.agg #[.slice none 0 0],iV e1])) 0 []) (he:(e1 !=0)=true) (ht:qnY s td tn) :
 Fn 78 1 [.ag [.pv (iV tn),.pv (iV td),.ls 0 s.length],.pv (.agg #[.int .u8 2,iV pi,iV pa,iV pb,iV z,iV qn,iV qd])] [(0,0,qad s)] (.tu [.ag [.pv (iV tn),.pv (iV td),.ls 1 s.length],.one (.pv (iV e1))]) 1 [(1,0,qad s)]:=
 Fz [(1,5)] [.k,.k,Cf hp [0],.t true,Cf ht [0]]
  (qaH (qaF [(1,5)]) [(1,0,qad s)]) (Co hp [0] 5 (Ai he (Co ht [0] 5 tI)))
theorem qu8 {tn td pi pa pb z qn qd:Int} {s m:List Pt} (hp:Fn 108 1 [qaq 0 s,.pv (iV z)] [(0,0,qad s)] (.tu [.ag [.ls 1 m.length],.one (.pv (iV 0))]) 1 [(1,0,qad m)]) :
 Fn 78 1 [.ag [.pv (iV tn),.pv (iV td),.ls 0 s.length],.pv (.agg #[.int .u8 2,iV pi,iV pa,iV pb,iV z,iV qn,iV qd])] [(0,0,qad s)] (.tu [.ag [.pv (iV tn),.pv (iV td),.ls 1 m.length],.one (.pv (iV 0))]) 1 [(1,0,qad m)]:=
 Fz [(1,5)] [.k,.k,Cf hp [0],.k]
  (qaH (qaF [(1,5)]) [(1,0,qad m)]) (Co hp [0] 5 tI)
theorem quN {tn td e1 pi pa pb z qn qd:Int} {s:List Pt} (hp:Fn 109 1 [qaq 0 s,.pv (qab pi pa pb)] [(0,0,qad s)] (.pv (.tuple #[.agg #[.slice none 0 0],iV e1])) 0 []) (he:(e1 !=0)=true) (ht:qnY s td tn) :
 Fn 78 1 [.ag [.pv (iV tn),.pv (iV td),.ls 0 s.length],.pv (.agg #[.int .u8 3,iV pi,iV pa,iV pb,iV z,iV qn,iV qd])] [(0,0,qad s)] (.tu [.ag [.pv (iV tn),.pv (iV td),.ls 1 s.length],.one (.pv (iV e1))]) 1 [(1,0,qad s)]:=
 Fz [(1,5)] [.k,.k,Cf hp [0],.t true,Cf ht [0]]
  (qaH (qaF [(1,5)]) [(1,0,qad s)]) (Co hp [0] 5 (Ai he (Co ht [0] 5 tI)))
theorem qu1 {tn td pi pa pb z qn qd:Int} {s m:List Pt} (hp:Fn 109 1 [qaq 0 s,.pv (qab pi pa pb)] [(0,0,qad s)] (.tu [.ag [.ls 1 m.length],.one (.pv (iV 0))]) 1 [(1,0,qad m)]) :
 Fn 78 1 [.ag [.pv (iV tn),.pv (iV td),.ls 0 s.length],.pv (.agg #[.int .u8 3,iV pi,iV pa,iV pb,iV z,iV qn,iV qd])] [(0,0,qad s)] (.tu [.ag [.pv (iV tn),.pv (iV td),.ls 1 m.length],.one (.pv (iV 0))]) 1 [(1,0,qad m)]:=
 Fz [(1,5)] [.k,.k,Cf hp [0],.k]
  (qaH (qaF [(1,5)]) [(1,0,qad m)]) (Co hp [0] 5 tI)
theorem qyY {tn td kd pi pa pb z qn qd:Int} {s:List Pt} (hw:Pure Tryz.prog 72 #[.agg #[.int .u8 kd,iV pi,iV pa,iV pb,iV z,iV qn,iV qd]] (.bool false)) (ht:qnY s td tn) :
 Fn 48 1 [.ag [.pv (iV tn),.pv (iV td),.ls 0 s.length],.pv (.agg #[.int .u8 kd,iV pi,iV pa,iV pb,iV z,iV qn,iV qd])] [(0,0,qad s)] (.tu [.ag [.pv (iV tn),.pv (iV td),.ls 1 s.length],.one (.pv (.agg #[iV (12),iV (0),iV (0),iV (0),iV (0),.slice none 0 0]))]) 1 [(1,0,qad s)]:=
 Fz [(1,5)] [Rf hw,.k,Cf ht [0]]
  (qaH (qaF [(1,5)]) [(1,0,qad s)]) (Ai hw (Co ht [0] 5 tI))
theorem qvX {tn td e1 pi pa pb z qn qd:Int} {s:List Pt} (hw:Pure Tryz.prog 72 #[.agg #[.int .u8 1,iV pi,iV pa,iV pb,iV z,iV qn,iV qd]] (.bool true)) (hc:Fn 78 1 [.ag [.pv (iV tn),.pv (iV td),.ls 0 s.length],.pv (.agg #[.int .u8 1,iV pi,iV pa,iV pb,iV z,iV qn,iV qd])] [(0,0,qad s)] (.tu [.ag [.pv (iV tn),.pv (iV td),.ls 1 s.length],.one (.pv (iV e1))]) 1 [(1,0,qad s)]) :
 Fn 48 1 [.ag [.pv (iV tn),.pv (iV td),.ls 0 s.length],.pv (.agg #[.int .u8 1,iV pi,iV pa,iV pb,iV z,iV qn,iV qd])] [(0,0,qad s)] (.tu [.ag [.pv (iV tn),.pv (iV td),.ls 1 s.length],.one (.pv (.agg #[iV (e1),iV (0),iV (0),iV (0),iV (0),.slice none 0 0]))]) 1 [(1,0,qad s)]:=
 Fz [(1,5)] [Rf hw,.k,.k,.k,.k,Cf hc [0]]
  (qaH (qaF [(1,5)]) [(1,0,qad s)]) (Ai hw (Co hc [0] 5 tI))
theorem qt8 {tn td pi pa pb z qn qd:Int} {s m:List Pt} (hw:Pure Tryz.prog 72 #[.agg #[.int .u8 1,iV pi,iV pa,iV pb,iV z,iV qn,iV qd]] (.bool true)) (hc:Fn 78 1 [.ag [.pv (iV tn),.pv (iV td),.ls 0 s.length],.pv (.agg #[.int .u8 1,iV pi,iV pa,iV pb,iV z,iV qn,iV qd])] [(0,0,qad s)] (.tu [.ag [.pv (iV tn),.pv (iV td),.ls 1 m.length],.one (.pv (iV 0))]) 1 [(1,0,qad m)]) :
 Fn 48 1 [.ag [.pv (iV tn),.pv (iV td),.ls 0 s.length],.pv (.agg #[.int .u8 1,iV pi,iV pa,iV pb,iV z,iV qn,iV qd])] [(0,0,qad s)] (.tu [.ag [.pv (iV tn),.pv (iV td),.ls 1 m.length],.one (.pv (.agg #[iV (0),iV (0),iV (0),iV (0),iV (0),.slice none 0 0]))]) 1 [(1,0,qad m)]:=
 Fz [(1,5)] [Rf hw,.k,.k,.k,.k,Cf hc [0]]
  (qaH (qaF [(1,5)]) [(1,0,qad m)]) (Ai hw (Co hc [0] 5 tI))
theorem qwl {tn td e1 pi pa pb z qn qd:Int} {s:List Pt} (hw:Pure Tryz.prog 72 #[.agg #[.int .u8 2,iV pi,iV pa,iV pb,iV z,iV qn,iV qd]] (.bool true)) (hc:Fn 78 1 [.ag [.pv (iV tn),.pv (iV td),.ls 0 s.length],.pv (.agg #[.int .u8 2,iV pi,iV pa,iV pb,iV z,iV qn,iV qd])] [(0,0,qad s)] (.tu [.ag [.pv (iV tn),.pv (iV td),.ls 1 s.length],.one (.pv (iV e1))]) 1 [(1,0,qad s)]) :
 Fn 48 1 [.ag [.pv (iV tn),.pv (iV td),.ls 0 s.length],.pv (.agg #[.int .u8 2,iV pi,iV pa,iV pb,iV z,iV qn,iV qd])] [(0,0,qad s)] (.tu [.ag [.pv (iV tn),.pv (iV td),.ls 1 s.length],.one (.pv (.agg #[iV (e1),iV (0),iV (0),iV (0),iV (0),.slice none 0 0]))]) 1 [(1,0,qad s)]:=
 Fz [(1,5)] [Rf hw,.k,.k,.k,.k,Cf hc [0]]
  (qaH (qaF [(1,5)]) [(1,0,qad s)]) (Ai hw (Co hc [0] 5 tI))
theorem qwg {tn td pi pa pb z qn qd:Int} {s m:List Pt} (hw:Pure Tryz.prog 72 #[.agg #[.int .u8 2,iV pi,iV pa,iV pb,iV z,iV qn,iV qd]] (.bool true)) (hc:Fn 78 1 [.ag [.pv (iV tn),.pv (iV td),.ls 0 s.length],.pv (.agg #[.int .u8 2,iV pi,iV pa,iV pb,iV z,iV qn,iV qd])] [(0,0,qad s)] (.tu [.ag [.pv (iV tn),.pv (iV td),.ls 1 m.length],.one (.pv (iV 0))]) 1 [(1,0,qad m)]) :
 Fn 48 1 [.ag [.pv (iV tn),.pv (iV td),.ls 0 s.length],.pv (.agg #[.int .u8 2,iV pi,iV pa,iV pb,iV z,iV qn,iV qd])] [(0,0,qad s)] (.tu [.ag [.pv (iV tn),.pv (iV td),.ls 1 m.length],.one (.pv (.agg #[iV (0),iV (0),iV (0),iV (0),iV (0),.slice none 0 0]))]) 1 [(1,0,qad m)]:=
 Fz [(1,5)] [Rf hw,.k,.k,.k,.k,Cf hc [0]]
  (qaH (qaF [(1,5)]) [(1,0,qad m)]) (Ai hw (Co hc [0] 5 tI))
theorem qv9 {tn td e1 pi pa pb z qn qd:Int} {s:List Pt} (hw:Pure Tryz.prog 72 #[.agg #[.int .u8 3,iV pi,iV pa,iV pb,iV z,iV qn,iV qd]] (.bool true)) (hc:Fn 78 1 [.ag [.pv (iV tn),.pv (iV td),.ls 0 s.length],.pv (.agg #[.int .u8 3,iV pi,iV pa,iV pb,iV z,iV qn,iV qd])] [(0,0,qad s)] (.tu [.ag [.pv (iV tn),.pv (iV td),.ls 1 s.length],.one (.pv (iV e1))]) 1 [(1,0,qad s)]) :
 Fn 48 1 [.ag [.pv (iV tn),.pv (iV td),.ls 0 s.length],.pv (.agg #[.int .u8 3,iV pi,iV pa,iV pb,iV z,iV qn,iV qd])] [(0,0,qad s)] (.tu [.ag [.pv (iV tn),.pv (iV td),.ls 1 s.length],.one (.pv (.agg #[iV (e1),iV (0),iV (0),iV (0),iV (0),.slice none 0 0]))]) 1 [(1,0,qad s)]:=
 Fz [(1,5)] [Rf hw,.k,.k,.k,.k,Cf hc [0]]
  (qaH (qaF [(1,5)]) [(1,0,qad s)]) (Ai hw (Co hc [0] 5 tI))
theorem quH {tn td pi pa pb z qn qd:Int} {s m:List Pt} (hw:Pure Tryz.prog 72 #[.agg #[.int .u8 3,iV pi,iV pa,iV pb,iV z,iV qn,iV qd]] (.bool true)) (hc:Fn 78 1 [.ag [.pv (iV tn),.pv (iV td),.ls 0 s.length],.pv (.agg #[.int .u8 3,iV pi,iV pa,iV pb,iV z,iV qn,iV qd])] [(0,0,qad s)] (.tu [.ag [.pv (iV tn),.pv (iV td),.ls 1 m.length],.one (.pv (iV 0))]) 1 [(1,0,qad m)]) :
 Fn 48 1 [.ag [.pv (iV tn),.pv (iV td),.ls 0 s.length],.pv (.agg #[.int .u8 3,iV pi,iV pa,iV pb,iV z,iV qn,iV qd])] [(0,0,qad s)] (.tu [.ag [.pv (iV tn),.pv (iV td),.ls 1 m.length],.one (.pv (.agg #[iV (0),iV (0),iV (0),iV (0),iV (0),.slice none 0 0]))]) 1 [(1,0,qad m)]:=
 Fz [(1,5)] [Rf hw,.k,.k,.k,.k,Cf hc [0]]
  (qaH (qaF [(1,5)]) [(1,0,qad m)]) (Ai hw (Co hc [0] 5 tI))
theorem qqH {tn td e1 pi pa pb z qn qd:Int} {s:List Pt} (hw:Pure Tryz.prog 72 #[.agg #[.int .u8 4,iV pi,iV pa,iV pb,iV z,iV qn,iV qd]] (.bool true)) (hm:Fn 73 1 [.ag [.pv (iV tn),.pv (iV td),.ls 0 s.length],.pv (.agg #[.int .u8 4,iV pi,iV pa,iV pb,iV z,iV qn,iV qd])] [(0,0,qad s)] (.tu [.ag [.pv (iV tn),.pv (iV td),.ls 1 s.length],.one (.pv (.agg #[iV (e1),iV (0),iV (0),iV (0),iV (0),.slice none 0 0]))]) 1 [(1,0,qad s)]) :
 Fn 48 1 [.ag [.pv (iV tn),.pv (iV td),.ls 0 s.length],.pv (.agg #[.int .u8 4,iV pi,iV pa,iV pb,iV z,iV qn,iV qd])] [(0,0,qad s)] (.tu [.ag [.pv (iV tn),.pv (iV td),.ls 1 s.length],.one (.pv (.agg #[iV (e1),iV (0),iV (0),iV (0),iV (0),.slice none 0 0]))]) 1 [(1,0,qad s)]:=
 Fz [(1,5)] [Rf hw,.k,.k,Cf hm [0]]
  (qaH (qaF [(1,5)]) [(1,0,qad s)]) (Ai hw (Co hm [0] 5 tI))
theorem qwt {tn td pi pa pb z qn qd:Int} {s:List Pt} {ms:List Mt} (hw:Pure Tryz.prog 72 #[.agg #[.int .u8 4,iV pi,iV pa,iV pb,iV z,iV qn,iV qd]] (.bool true)) (hm:Fn 73 1 [.ag [.pv (iV tn),.pv (iV td),.ls 0 s.length],.pv (.agg #[.int .u8 4,iV pi,iV pa,iV pb,iV z,iV qn,iV qd])] [(0,0,qad s)] (.tu [.ag [.pv (iV qn),.pv (iV qd),.ls 1 s.length],.ag [.pv (iV 0),.pv (iV 0),.pv (iV 0),.pv (iV 0),.pv (iV 0),.ls 2 ms.length]]) 2 [(1,0,qad s),(2,0,.row 95 4 ms.length (msV ms))]) :
 Fn 48 1 [.ag [.pv (iV tn),.pv (iV td),.ls 0 s.length],.pv (.agg #[.int .u8 4,iV pi,iV pa,iV pb,iV z,iV qn,iV qd])] [(0,0,qad s)] (.tu [.ag [.pv (iV qn),.pv (iV qd),.ls 1 s.length],.ag [.pv (iV 0),.pv (iV 0),.pv (iV 0),.pv (iV 0),.pv (iV 0),.ls 2 ms.length]]) 2 [(1,0,qad s),(2,0,.row 95 4 ms.length (msV ms))]:=
 Fz [(1,5),(2,6)] [Rf hw,.k,.k,Cf hm [0]]
  (qaH (qaF [(1,5),(2,6)]) [(1,0,qad s),(2,0,.row 95 4 ms.length (msV ms))]) (Ai hw (Co hm [0] 5 tI))
theorem quJ {tn td pi pa pb z qn qd:Int} {s:List Pt} (hw:Pure Tryz.prog 72 #[.agg #[.int .u8 5,iV pi,iV pa,iV pb,iV z,iV qn,iV qd]] (.bool true)) (hl:((s.length:Int)==0)=true) (ht:qnY s td tn) :
 Fn 48 1 [.ag [.pv (iV tn),.pv (iV td),.ls 0 s.length],.pv (.agg #[.int .u8 5,iV pi,iV pa,iV pb,iV z,iV qn,iV qd])] [(0,0,qad s)] (.tu [.ag [.pv (iV tn),.pv (iV td),.ls 1 s.length],.one (.pv (.agg #[iV (42),iV (0),iV (0),iV (0),iV (0),.slice none 0 0]))]) 1 [(1,0,qad s)]:=
 Fz [(1,5)] [Rf hw,.k,.k,.k,.t true,Cf ht [0]]
  (qaH (qaF [(1,5)]) [(1,0,qad s)]) (Ai hw (Ai hl (Co ht [0] 5 tI)))
theorem qv5 {tn td n1 d1 pi pa pb z qn qd id1:Int} {s:List Pt} {p:Pt} {k:Nat} {g:List Int} (hw:Pure Tryz.prog 72 #[.agg #[.int .u8 5,iV pi,iV pa,iV pb,iV z,iV qn,iV qd]] (.bool true)) (hl:((s.length:Int)==0)=false) (h0:0≤(0:Int)∧(0:Int)<(s.length:Int)) (hg:g[0]?=some id1) (ho:Fn 74 1 [qaq 0 s,.pv (qaa tn td)] [(0,0,qad s)] (.ls 1 s.length) 1 [(1,0,.row 3 1 s.length (qfy g))]) (ht:qnY s td tn) (hk:Fn 76 1 [qaq 0 s,.pv (iV id1)] [(0,0,qad s)] (.pv (iV (k:Int))) 0 []) (hk1:0≤(k:Int)∧(k:Int)<(s.length:Int)) (hk2:s[k]?=some p) (hq:Pure Tryz.prog 75 #[qab p.id p.a p.b,qaa tn td] (qaa n1 d1)) :
 Fn 48 1 [.ag [.pv (iV tn),.pv (iV td),.ls 0 s.length],.pv (.agg #[.int .u8 5,iV pi,iV pa,iV pb,iV z,iV qn,iV qd])] [(0,0,qad s)] (.tu [.ag [.pv (iV tn),.pv (iV td),.ls 1 s.length],.one (.pv (.agg #[iV (0),iV (id1),iV (0),iV (n1),iV (d1),.slice none 0 0]))]) 1 [(1,0,qad s)]:=
 Fz [(1,6)] [Rf hw,.k,.k,.k,.t false,Cf ho [0],.r (iV id1),.md,Cf ht [0],Cf hk [0],.r (ptV p),Rf hq]
  (qaH (qaF [(1,6)]) [(1,0,qad s)]) (Ai hw (Ai hl (Co ho [0] 5 (Ai h0 (Ai (qvM hg) (Co ht [0] 6 (Co hk [0] 7 (Ai hk1 (Ai (qa3 hk2) (Ai hq tI))))))))))
theorem quv {tn td pi pa pb z qn qd:Int} {s:List Pt} (hw:Pure Tryz.prog 72 #[.agg #[.int .u8 6,iV pi,iV pa,iV pb,iV z,iV qn,iV qd]] (.bool true)) (hl:decide ((s.length:Int)<2)=true) (ht:qnY s td tn) :
 Fn 48 1 [.ag [.pv (iV tn),.pv (iV td),.ls 0 s.length],.pv (.agg #[.int .u8 6,iV pi,iV pa,iV pb,iV z,iV qn,iV qd])] [(0,0,qad s)] (.tu [.ag [.pv (iV tn),.pv (iV td),.ls 1 s.length],.one (.pv (.agg #[iV (42),iV (0),iV (0),iV (0),iV (0),.slice none 0 0]))]) 1 [(1,0,qad s)]:=
 Fz [(1,5)] [Rf hw,.k,.k,.k,.k,.t true,Cf ht [0]]
  (qaH (qaF [(1,5)]) [(1,0,qad s)]) (Ai hw (Ai hl (Co ht [0] 5 tI)))
theorem qwp {tn td n1 d1 pi pa pb z qn qd id1 id2:Int} {s:List Pt} (hw:Pure Tryz.prog 72 #[.agg #[.int .u8 6,iV pi,iV pa,iV pb,iV z,iV qn,iV qd]] (.bool true)) (hl:decide ((s.length:Int)<2)=false) (hp:Fn 77 1 [qaq 0 s,.pv (qaa tn td)] [(0,0,qad s)] (.pv (.tuple #[iV id1,iV id2,qaa n1 d1])) 0 []) (ht:qnY s td tn) :
 Fn 48 1 [.ag [.pv (iV tn),.pv (iV td),.ls 0 s.length],.pv (.agg #[.int .u8 6,iV pi,iV pa,iV pb,iV z,iV qn,iV qd])] [(0,0,qad s)] (.tu [.ag [.pv (iV tn),.pv (iV td),.ls 1 s.length],.one (.pv (.agg #[iV (0),iV (id1),iV (id2),iV (n1),iV (d1),.slice none 0 0]))]) 1 [(1,0,qad s)]:=
 Fz [(1,6)] [Rf hw,.k,.k,.k,.k,.t false,Cf hp [0],.md,Cf ht [0]]
  (qaH (qaF [(1,6)]) [(1,0,qad s)]) (Ai hw (Ai hl (Co hp [0] 5 (Co ht [0] 6 tI))))
end Go.Proofs.YtleaeldgaflmkaaGreat

namespace Go.Proofs.YtleaeldgaflmkaaGreat
set_option maxRecDepth 100000
open Go.RowKit
abbrev qch (a:AskQ):Value:=.agg #[.int .u8 a.kd,iV a.pi,iV a.pa,iV a.pb,iV a.z,iV a.qn,iV a.qd]
abbrev qdP (r:Rep):List S0:=[.pv (iV r.e),.pv (iV r.id),.pv (iV r.ot),.pv (iV r.n),.pv (iV r.d),.dv 4 r.ms.length ((msV r.ms).map .v)]
abbrev moS (k:Nat) (s:List Pt) (n d:Int):SV:=.ag [.pv (iV n),.pv (iV d),.ls k s.length]
abbrev mo1 (k:Nat) (s:List Pt) (n d:Int):S1:=.ag [.pv (iV n),.pv (iV d),.ls k s.length]
def wfB (a:AskQ):Bool:=
 if a.kd=1∨a.kd=3 then a.z==0&&(a.qn==0&&a.qd==0)
 else if a.kd=2 then a.pi==0&&(a.pa==0&&(a.pb==0&&(a.qn==0&&a.qd==0)))
 else if a.kd=4 then a.pi==0&&(a.pa==0&&(a.pb==0&&a.z==0))
 else if a.kd=5∨a.kd=6 then a.pi==0&&(a.pa==0&&(a.pb==0&&(a.z==0&&(a.qn==0&&a.qd==0))))
 else false
theorem qrq (a:AskQ):Pure Tryz.prog 94 #[qch a] (.bool (wfB a))∧Pure Tryz.prog 72 #[qch a] (.bool (wfB a)):=by
 obtain⟨kd,pi,pa,pb,z,qn,qd⟩:=a
 by_cases h1:kd=1
 ·subst h1;exact⟨qyX (hf:=by simp[wfB]),qzh (hf:=by simp[wfB])⟩
 by_cases h2:kd=2
 ·subst h2;exact⟨qxR (hf:=by simp[wfB,Bool.and_assoc]),qx2 (hf:=by simp[wfB,Bool.and_assoc])⟩
 by_cases h3:kd=3
 ·subst h3;exact⟨qxy (hf:=by simp[wfB]),qza (hf:=by simp[wfB])⟩
 by_cases h4:kd=4
 ·subst h4;exact⟨qzg (hf:=by simp[wfB,Bool.and_assoc]),qx5 (hf:=by simp[wfB,Bool.and_assoc])⟩
 by_cases h5:kd=5
 ·subst h5;exact⟨qya (hf:=by simp[wfB,Bool.and_assoc]),qyi (hf:=by simp[wfB,Bool.and_assoc])⟩
 by_cases h6:kd=6
 ·subst h6;exact⟨qyo (hf:=by simp[wfB,Bool.and_assoc]),qyp (hf:=by simp[wfB,Bool.and_assoc])⟩
 have hw:wfB ⟨kd,pi,pa,pb,z,qn,qd⟩=false:=by simp[wfB,h1,h2,h3,h4,h5,h6]
 rw[hw]
 exact⟨qym (h1:=by simp[h1]) (h2:=by simp[h2]) (h3:=by simp[h3]) (h4:=by simp[h4]) (h5:=by simp[h5]) (h6:=by simp[h6]),qxS (h1:=by simp[h1]) (h2:=by simp[h2]) (h3:=by simp[h3]) (h4:=by simp[h4]) (h5:=by simp[h5]) (h6:=by simp[h6])⟩
section
variable {s:List Pt} {n d:Int} {a:AskQ}
inductive Done (s:List Pt) (n d:Int) (a:AskQ) (r:Rep) (n' d':Int) (s':List Pt):Prop where
 | new (he:r.e=0) (h:Fn 69 1 [moS 0 s n d,.pv (qch a)] [(0,0,qad s)] (.tu [mo1 1 s' n' d',.ag (qdP r)]) 1 [(1,0,qad s')])
 | old (he:r.e=0) (hs:s'=s) (h:Fn 69 1 [moS 0 s n d,.pv (qch a)] [(0,0,qad s)] (.tu [mo1 0 s n' d',.ag (qdP r)]) 0 [])
 | err (he:r.e≠0) (x y:Int) (h:Fn 69 1 [moS 0 s n d,.pv (qch a)] [(0,0,qad s)] (.tu [mo1 0 s x y,.ag (qdP r)]) 0 [])
 | non (he:r.e≠0) (x y:Int) (h:Fn 69 1 [moS 0 s n d,.pv (qch a)] [(0,0,qad s)] (.tu [.one (.pv (.agg #[iV x,iV y,.slice none 0 0])),.ag (qdP r)]) 0 [])
abbrev qpT (s:List Pt) (n d:Int) (a:AskQ) (r:Rep) (n' d':Int) (s':List Pt):Prop:=
 Fn 48 1 [moS 0 s n d,.pv (qch a)] [(0,0,qad s)] (.tu [mo1 1 s' n' d',.ag (qdP r)]) 2 [(1,0,qad s')]
abbrev qkR (e:Int):Rep:=⟨e,0,0,0,0,[]⟩
structure Outc (s:List Pt) (n d:Int) (a:AskQ) (r:Rep) (n' d':Int) (s':List Pt):Prop where
 val:Val s'
 ask:AskT n' d'
 few:r.ms.length≤100000
 err:r.e≠0→r=qkR r.e∧s'=s∧n'=n∧d'=d
 ref:qpT s n d a r n' d' s'
 prg:Done s n d a r n' d' s'
 k1:a.kd=1→wfB a=true→okP a.pi a.pa a.pb=true→(∀ p∈s,p.id≠a.pi)→s.length<64→r=qkR 0∧n'=n∧d'=d∧s'=qwi ⟨a.pi,a.pa,a.pb⟩ s
 k4:a.kd=4→wfB a=true→AskT a.qn a.qd→n*a.qd<a.qn*d→r=⟨0,0,0,0,0,qlW s n d a.qn a.qd⟩∧n'=a.qn∧d'=a.qd∧s'=s
 k5:a.kd=5→wfB a=true→(s=[]∧r.e=42)∨(s≠[]∧∃ N D,r=⟨0,(ldr s n d).id,0,N,D,[]⟩∧okB N D=true∧I64 N∧I64 D∧N*d=plS (ldr s n d) n d*D)
 k6:a.kd=6→wfB a=true→(s.length<2∧r.e=42)∨(2≤s.length∧∃ N D,r=⟨0,(ptK s (qb7 s n d).1).id,(ptK s (qb7 s n d).2).id,N,D,[]⟩∧DisI s n d (qb7 s n d) N D)
theorem qca {n' d':Int} {s':List Pt} {e id ot N D:Int} (h:Fn 48 1 [moS 0 s n d,.pv (qch a)] [(0,0,qad s)] (.tu [mo1 1 s' n' d',.one (.pv (.agg #[iV e,iV id,iV ot,iV N,iV D,.slice none 0 0]))]) 1 [(1,0,qad s')]):qpT s n d a ⟨e,id,ot,N,D,[]⟩ n' d' s':=
 qui (by decide) (qeB h fun β v ⟨vs,hl,hv⟩=>match vs,hl with
  | [p,q],⟨hp,hq,_⟩=>⟨[p,q],⟨hp,⟨[iV e,iV id,iV ot,iV N,iV D,.slice none 0 0],⟨rfl,rfl,rfl,rfl,rfl,qis,tI⟩,hq⟩,tI⟩,hv⟩)
theorem qwc {n' d':Int} {s':List Pt} {ms:List Mt} (h:Fn 48 1 [moS 0 s n d,.pv (qch a)] [(0,0,qad s)] (.tu [mo1 1 s' n' d',.ag [.pv (iV 0),.pv (iV 0),.pv (iV 0),.pv (iV 0),.pv (iV 0),.ls 2 ms.length]]) 2 [(1,0,qad s'),(2,0,.row 95 4 ms.length (msV ms))]):qpT s n d a ⟨0,0,0,0,0,ms⟩ n' d' s':=
 qsJ (j:=2) h (by decide) rfl fun β β' v u hle hg hd ⟨vs,hl,hv⟩=>match vs,hl with
  | [p,q],⟨hp,⟨xs,hx,hq⟩,_⟩=>match xs,hx with
   | [x0,x1,x2,x3,x4,x5],⟨e0,e1,e2,e3,e4,⟨e5,_⟩,_⟩=>⟨[p,q],⟨S1.is_mono hle hp,⟨[x0,x1,x2,x3,x4,x5],⟨e0,e1,e2,e3,e4,by rw[hg] at e5;cases e5;exact hd,tI⟩,hq⟩,tI⟩,hv⟩
theorem qvY (h:Fn 69 1 [moS 0 s n d,.pv (qch a)] [(0,0,qad s)] (.pv (.tuple #[.agg #[iV 0,iV 0,.slice none 0 0],.agg #[iV 12,iV 0,iV 0,iV 0,iV 0,.slice none 0 0]])) 0 []) {n' d':Int} {s':List Pt}:Done s n d a (qkR 12) n' d' s':=
 .non (by decide) 0 0 (qeB h fun β v hv=>⟨[_,_],⟨rfl,⟨[iV 12,iV 0,iV 0,iV 0,iV 0,.slice none 0 0],⟨rfl,rfl,rfl,rfl,rfl,qis,tI⟩,rfl⟩,tI⟩,hv⟩)
end
end Go.Proofs.YtleaeldgaflmkaaGreat

namespace Go.Proofs.YtleaeldgaflmkaaGreat
set_option maxRecDepth 100000
open Go.RowKit
section
variable {s:List Pt} {n d:Int}
theorem qvR (hv:Val s):Fn 21 1 [moS 0 s n d] [(0,0,qad s)] (moS 1 s n d) 1 [(1,0,qad s)]:=vtw (ht:=qgq (by have:=hv.len;omega))
theorem qcC {a:AskQ} (hv:Val s) (ha:AskT n d) {e:Int} (he:e≠0) (hr:qpT s n d a (qkR e) n d s) (hp:Done s n d a (qkR e) n d s) (h1:a.kd=1→wfB a=true→¬ (okP a.pi a.pa a.pb=true∧(∀ p∈s,p.id≠a.pi)∧s.length<64)) (h4:a.kd=4→wfB a=true→¬ (AskT a.qn a.qd∧n*a.qd<a.qn*d))
 (h5:a.kd=5→wfB a=true→s=[]∧e=42) (h6:a.kd=6→wfB a=true→s.length<2∧e=42):Outc s n d a (qkR e) n d s where
 val:=hv
 ask:=ha
 few:=Nat.zero_le _
 err:=fun _=>⟨rfl,rfl,rfl,rfl⟩
 ref:=hr
 prg:=hp
 k1:=fun x y z u v=>(h1 x y ⟨z,u,v⟩).elim
 k4:=fun x y z u=>(h4 x y ⟨z,u⟩).elim
 k5:=fun x y=>Or.inl (h5 x y)
 k6:=fun x y=>Or.inl (h6 x y)
theorem qnM (a:AskQ) (hv:Val s) (ht:AskT n d) (hq:I64 a.qn∧I64 a.qd):∃ r n' d' s',Outc s n d a r n' d' s':=by
 obtain⟨kd,pi,pa,pb,z,qn,qd⟩:=a
 obtain⟨w1,w2⟩:=qrq ⟨kd,pi,pa,pb,z,qn,qd⟩
 have tw:=qvR (n:=n) (d:=d) hv
 obtain⟨i1,i2,i3⟩:=ht.in
 have tm:Tm n d:=⟨i1,i2,ht.ok⟩
 have e0:qcd s=0:=qb8.2 hv
 by_cases hn:¬ wfB ⟨kd,pi,pa,pb,z,qn,qd⟩=true
 ·have hw:=hn
  have hw':=Bool.not_eq_true _ |>.mp hn
  rw[hw'] at w1 w2
  exact⟨_,_,_,_,qcC hv ht (by decide) (qca (qyY (hw:=w2) (ht:=tw))) (qvY (qxP (hw:=w1))) (fun _ h=>(hw h).elim) (fun _ h=>(hw h).elim) (fun _ h=>(hw h).elim) (fun _ h=>(hw h).elim)⟩
 have hw:=Classical.not_not.1 hn
 rw[hw] at w1 w2
 by_cases h1:kd=1
 ·subst h1
  rcases qs7 s pi pa pb with ⟨e,p1,p2,hr⟩ | ⟨k,_,g1,g2,g3,g4,g5,g6,p1,p2⟩
  ·have he:e≠0:=by rcases hr with ⟨h,_⟩ | ⟨_,_,h⟩ | ⟨_,_,_,h⟩ | ⟨_,_,_,_,h⟩<;>omega
   refine⟨_,_,_,_,qcC hv ht he (qca (qvX (hw:=w2) (hc:=qwo (hp:=p2) (he:=by simpa using he) (ht:=tw)))) (.non he n d (quT (hw:=w1) (hp:=p1))) (fun _ _ ⟨a1,a2,a3⟩=>?_) (fun h=>by cases h) (fun h=>by cases h) (fun h=>by cases h)⟩
   rcases hr with ⟨h,_⟩ | ⟨_,h,_⟩ | ⟨_,_,⟨p,hp,h⟩,_⟩ | ⟨_,_,_,h,_⟩
   ·exact h e0
   ·exact h a1
   ·exact a2 p hp h
   ·omega
  ·refine⟨qkR 0,n,d,_,⟨qto hv g2 g1 g4 g5 g6,ht,Nat.zero_le _,fun h=>(h rfl).elim,qca (qt8 (hw:=w2) (hc:=qvw (hp:=p2))),.new rfl (qv7 (hw:=w1) (hp:=p1)),fun _ _ _ _ _=>⟨rfl,rfl,rfl,?_⟩,(fun h=>by cases h),(fun h=>by cases h),(fun h=>by cases h)⟩⟩
   exact (qlk (p:=⟨pi,pa,pb⟩) g4 g5 g6).symm
 by_cases h2:kd=2
 ·subst h2
  rcases qpU s z with ⟨e,p1,p2,hr⟩ | ⟨k,p,_,g1,g2,p1,p2⟩
  ·have he:e≠0:=by rcases hr with ⟨h,_⟩ | ⟨_,_,h⟩<;>omega
   exact⟨_,_,_,_,qcC hv ht he (qca (qwl (hw:=w2) (hc:=qwm (hp:=p2) (he:=by simpa using he) (ht:=tw)))) (.non he n d (qut (hw:=w1) (hp:=p1))) (fun h=>by cases h) (fun h=>by cases h) (fun h=>by cases h) (fun h=>by cases h)⟩
  ·exact⟨qkR 0,n,d,_,⟨qof hv (qav g1),ht,Nat.zero_le _,fun h=>(h rfl).elim,qca (qwg (hw:=w2) (hc:=qu8 (hp:=p2))),.new rfl (qt9 (hw:=w1) (hp:=p1)),(fun h=>by cases h),(fun h=>by cases h),(fun h=>by cases h),(fun h=>by cases h)⟩⟩
 by_cases h3:kd=3
 ·subst h3
  rcases qj5 s pi pa pb with ⟨e,p1,p2,hr⟩ | ⟨k,p,_,g1,g2,g3,p1,p2⟩
  ·have he:e≠0:=by rcases hr with ⟨h,_⟩ | ⟨_,_,h⟩ | ⟨_,_,_,h⟩<;>omega
   exact⟨_,_,_,_,qcC hv ht he (qca (qv9 (hw:=w2) (hc:=quN (hp:=p2) (he:=by simpa using he) (ht:=tw)))) (.non he n d (qvj (hw:=w1) (hp:=p1))) (fun h=>by cases h) (fun h=>by cases h) (fun h=>by cases h) (fun h=>by cases h)⟩
  ·exact⟨qkR 0,n,d,_,⟨qsb hv g2 g3 g1,ht,Nat.zero_le _,fun h=>(h rfl).elim,qca (quH (hw:=w2) (hc:=qu1 (hp:=p2))),.new rfl (quI (hw:=w1) (hp:=p1)),(fun h=>by cases h),(fun h=>by cases h),(fun h=>by cases h),(fun h=>by cases h)⟩⟩
 by_cases h4:kd=4
 ·subst h4
  have c1:Pure Tryz.prog 40 #[qaa qn qd] (iV (qeg qn qd)):=fun w=>qcq qn qd w hq.1 hq.2
  have c2:Pure Tryz.prog 31 #[qaa qn qd] (iV (qeg qn qd)):=fun w=>qc9 qn qd w hq.1 hq.2
  by_cases ha:qeg qn qd=0
  ·have hT:=qct.1 ha
   rw[ha] at c1 c2
   have k1:=qi5 hq.1 hq.2 i1 i2 hT.ok ht.ok
   have k2:=qbz hq.1 hq.2 i1 i2
   by_cases hl:(qn*d-n*qd).sign≤0
   ·have hl':qn*d-n*qd≤0:=Int.sign_nonpos_iff.1 hl
    exact⟨_,_,_,_,qcC hv ht (e:=44) (by decide) (qca (qqH (hw:=w2) (hm:=qxH (ha:=c2) (hc:=k2) (hl:=dt hl) (ht:=tw)))) (.err (by decide) qn qd (qqU (hw:=w1) (hb:=qyQ (ha:=c1) (hc:=k1) (hl:=dt hl)))) (fun h=>by cases h) (fun _ _ ⟨_,h⟩=>by simp only at h;omega) (fun h=>by cases h) (fun h=>by cases h)⟩
   ·have hl':¬ qn*d-n*qd≤0:=fun q=>hl (Int.sign_nonpos_iff.2 q)
    have hm:=quV i1 i2 hq.1 hq.2 s (by unfold mE;rw[if_pos e0,if_pos ⟨ht.ok,hT.ok⟩,if_neg (by show ¬ n*qd-qn*d>0;omega)])
    have hb:=qhq i1 i2 hq.1 hq.2 hv
    exact⟨⟨0,0,0,0,0,qlW s n d qn qd⟩,qn,qd,s,⟨hv,hT,(by have:=qiY hv n d qn qd;show (qlW s n d qn qd).length≤100000;omega),fun h=>(h rfl).elim,qwc (qwt (hw:=w2) (hm:=qxt (ha:=c2) (hc:=k2) (hl:=df hl) (ht:=tw) (hb:=hb))),.old rfl rfl (qt4 (hw:=w1) (hb:=qxB (ha:=c1) (hc:=k1) (hl:=df hl) (hm:=hm))),(fun h=>by cases h),fun _ _ _ _=>⟨rfl,rfl,rfl,rfl⟩,(fun h=>by cases h),(fun h=>by cases h)⟩⟩
  ·have ha':(qeg qn qd !=0)=true:=by simpa using ha
   exact⟨_,_,_,_,qcC hv ht ha (qca (qqH (hw:=w2) (hm:=qxY (ha:=c2) (he:=ha') (ht:=tw)))) (.err ha qn qd (qqU (hw:=w1) (hb:=qyN (ha:=c1) (he:=ha')))) (fun h=>by cases h) (fun _ _ ⟨h,_⟩=>ha (qct.2 h)) (fun h=>by cases h) (fun h=>by cases h)⟩
 by_cases h5:kd=5
 ·subst h5
  by_cases hs:s=[]
  ·subst hs
   exact⟨_,_,_,_,qcC hv ht (e:=42) (by decide) (qca (quJ (hw:=w2) (hl:=by decide) (ht:=tw))) (.err (by decide) n d (qwr (hw:=w1) (hl:=qyT (hl:=qg1 tm) (he:=by decide)))) (fun h=>by cases h) (fun h=>by cases h) (fun _ _=>⟨rfl,rfl⟩) (fun h=>by cases h)⟩
  ·have hm:=qsW hv n d hs
   obtain⟨k,hk⟩:=List.getElem?_of_mem hm
   have hp:=hv.ok _ hm
   obtain⟨N,D,E,f1,f2,f3,f4,f5⟩:=qqs hp ht
   obtain⟨N',D',g1,g2,g3,g4,g5⟩:=qmM hp ht
   have hmk:=qhA (a:=plS (ldr s n d) n d) (b:=d) (by omega)
   obtain⟨a1,a2,_⟩:=hmk.one (by omega) f1 f2 f3 f4
   obtain⟨b1,b2,_⟩:=hmk.one (by omega) g1 g2 g3 g4
   obtain rfl:=a1.symm.trans b1
   obtain rfl:=a2.symm.trans b2
   obtain⟨o,ho⟩:=qgG (tn:=n) (td:=d) hv
   have hor:=qib hv tm ho
   have h0:=qim ho hs
   have hl:0<s.length:=List.length_pos_iff.2 hs
   have c1:=qaQ s
   rw[e0] at c1
   have F1:=qm0 hk (qaB (qav hk)) c1 (qdt hv hk rfl)
   refine⟨⟨0,(ldr s n d).id,0,N,D,[]⟩,n,d,s,⟨hv,ht,Nat.zero_le _,fun h=>(h rfl).elim,qca (qv5 (k:=k) (g:=o.map Pt.id) (hw:=w2) (hl:=by simpa using hs) (h0:=⟨by omega,by omega⟩) (hg:=by rw[List.getElem?_map,h0];rfl) (ho:=hor) (ht:=tw) (hk:=qi1 hv hk rfl) (hk1:=⟨by omega,by have:=qav hk;omega⟩) (hk2:=hk) (hq:=g5)),.old rfl rfl (qwr (hw:=w1) (hl:=qzi (hl:=qj1 hv tm hs) (hf:=F1) (hp:=f5))),(fun h=>by cases h),(fun h=>by cases h),fun _ _=>Or.inr ⟨hs,N,D,rfl,f1,f2,f3,f4⟩,(fun h=>by cases h)⟩⟩
 by_cases h6:kd=6
 ·subst h6
  obtain⟨i,j,N,D,e,hc,hz,cl⟩:=qp5 (s:=s) i1 i2
  by_cases h2:s.length<2
  ·have he:e=42:=by
    rcases hc with ⟨h,_⟩ | ⟨_,h,_⟩ | ⟨_,_,_,h⟩ | ⟨_,_,h,_⟩
    ·exact (h e0).elim
    ·exact (h (qct.2 ht)).elim
    ·exact h
    ·omega
   subst he
   obtain⟨rfl,rfl,rfl,rfl⟩:=hz (by decide)
   exact⟨_,_,_,_,qcC hv ht (e:=42) (by decide) (qca (quv (hw:=w2) (hl:=dt (by omega)) (ht:=tw))) (.err (by decide) n d (qu4 (hw:=w1) (hl:=cl))) (fun h=>by cases h) (fun h=>by cases h) (fun h=>by cases h) (fun _ _=>⟨h2,rfl⟩)⟩
  ·obtain⟨he,hi,hj,hD⟩:e=0∧i=(ptK s (qb7 s n d).1).id∧j=(ptK s (qb7 s n d).2).id∧DisI s n d (qb7 s n d) N D:=by
    rcases hc with ⟨h,_⟩ | ⟨_,h,_⟩ | ⟨_,_,h,_⟩ | ⟨_,_,_,h⟩
    ·exact (h e0).elim
    ·exact (h (qct.2 ht)).elim
    ·omega
    ·exact h
   subst he hi hj
   obtain⟨N',D',j1,_,rp⟩:=qw9 hv.ok ht (by have:=hv.len;omega) (by omega)
   obtain⟨rfl,rfl⟩:=DisI.uniq i3 hD j1
   exact⟨⟨0,_,_,N,D,[]⟩,n,d,s,⟨hv,ht,Nat.zero_le _,fun h=>(h rfl).elim,qca (qwp (hw:=w2) (hl:=df (by omega)) (hp:=rp) (ht:=tw)),.old rfl rfl (qu4 (hw:=w1) (hl:=cl)),(fun h=>by cases h),(fun h=>by cases h),(fun h=>by cases h),fun _ _=>Or.inr ⟨by show 2≤s.length;omega,N,D,rfl,hD⟩⟩⟩
 ·exfalso
  have:wfB ⟨kd,pi,pa,pb,z,qn,qd⟩=false:=by simp[wfB,h1,h2,h3,h4,h5,h6]
  rw[this] at hw
  cases hw
end
end Go.Proofs.YtleaeldgaflmkaaGreat

namespace Go.Proofs.YtleaeldgaflmkaaGreat
set_option maxRecDepth 100000
open Go.RowKit
def qfq:List AskQ→List Value
 | []=>[]
 | a::r=>.int .u8 a.kd::iV a.pi::iV a.pa::iV a.pb::iV a.z::iV a.qn::iV a.qd::qfq r
abbrev qhG (qs:List AskQ):SV:=.row 42 7 qs.length (qfq qs)
abbrev qhv (r:Rep):List Dn:=[.v (iV r.e),.v (iV r.id),.v (iV r.ot),.v (iV r.n),.v (iV r.d),.sl 4 r.ms.length ((msV r.ms).map .v)]
theorem qsA (r:Rep):qw4 (qhv r) 0 (qhv r):=fun j d h=>by rw[Nat.zero_add];exact h
theorem qhw:∀ {l:List AskQ} {k:Nat} {a:AskQ},l[k]?=some a→(qfq l)[k*7]?=some (.int .u8 a.kd)∧(qfq l)[k*7+1]?=some (iV a.pi)∧(qfq l)[k*7+2]?=some (iV a.pa)∧(qfq l)[k*7+3]?=some (iV a.pb)∧(qfq l)[k*7+4]?=some (iV a.z)∧(qfq l)[k*7+5]?=some (iV a.qn)∧(qfq l)[k*7+6]?=some (iV a.qd)
 | [],k,p,h=>by simp at h
 | q::r,0,p,h=>by simp at h;subst h;exact⟨rfl,rfl,rfl,rfl,rfl,rfl,rfl⟩
 | q::r,k+1,p,h=>by
  have:=qhw (l:=r) (k:=k) (a:=p) (by simpa using h)
  rw[show (k+1)*7=k*7+1+1+1+1+1+1+1 by omega]
  exact this
theorem qen {l:List AskQ} {k:Nat} {a:AskQ} (h:l[k]?=some a):qc8 (qfq l) (0*7+k*7) [.int .u8 a.kd,iV a.pi,iV a.pa,iV a.pb,iV a.z,iV a.qn,iV a.qd]:=by
 obtain⟨h0,h1,h2,h3,h4,h5,h6⟩:=qhw h
 intro j v hj
 rw[show 0*7+k*7+j=k*7+j by omega]
 match j,hj with
 | 0,hj=>cases hj;exact h0
 | 1,hj=>cases hj;exact h1
 | 2,hj=>cases hj;exact h2
 | 3,hj=>cases hj;exact h3
 | 4,hj=>cases hj;exact h4
 | 5,hj=>cases hj;exact h5
 | 6,hj=>cases hj;exact h6
 | j+7,hj=>simp at hj
end Go.Proofs.YtleaeldgaflmkaaGreat

namespace Go.Proofs.YtleaeldgaflmkaaGreat
set_option maxRecDepth 100000
open Go.RowKit
theorem qzA (t t':TypeId) (es n:Nat) (xs:List Value):some (SV.prow t' es n xs)=some (SV.row t es n xs)∨∃ t1 es1 n1 xs1,SV.row t es n xs=.row t1 es1 n1 xs1∧∃ t2,some (SV.prow t' es n xs)=some (.prow t2 es1 n1 xs1):=Or.inr ⟨t,es,n,xs,rfl,t',rfl⟩
theorem qjn (a b:Int):(a==a&&(b==b&&true))=true:=by simp
theorem qyh {tn td e1:Int} {s:List Pt} {aq:AskQ} (hc:Fn 25 1 [moS 0 s tn td] [(0,0,qad s)] (.pv (iV (e1))) 0 []) (he:(e1 !=0)=true) :
 Fn 23 1 [moS 0 s tn td,.pv (qch aq)] [(0,0,qad s)] (.pv (.tuple #[.agg #[iV 0,iV 0,.slice none 0 0],.agg #[iV 0,iV 0,iV 0,iV 0,iV 0,.slice none 0 0],iV 8])) 0 []:=
 Fz [] [Cf hc [0],.t true]
  tI (Co hc [0] 5 (Ai he tI))
theorem qyC {tn td n' d':Int} {s s':List Pt} {rp:Rep} {aq:AskQ} (hc:Fn 25 1 [moS 0 s tn td] [(0,0,qad s)] (.pv (iV (0))) 0 []) (hd:Fn 48 1 [moS 0 s tn td,.pv (qch aq)] [(0,0,qad s)] (.tu [mo1 1 s' n' d',.ag (qdP rp)]) 2 [(1,0,qad s')]) :
 Fn 23 1 [moS 0 s tn td,.pv (qch aq)] [(0,0,qad s)] (.tu [mo1 1 s' n' d',.ag (qdP rp),.one (.pv (iV 0))]) 1 [(1,0,qad s')]:=
 Fz [(1,5)] [Cf hc [0],.k,Cf hd [0],.md]
  (qaH (qaF [(1,5)]) [(1,0,qad s')]) (Co hc [0] 5 (Co hd [0] 5 tI))
theorem qxI {rp:Rep} (hs:Fn 34 2 [.ls 0 rp.ms.length,.ls 1 rp.ms.length] [(0,0,.row 95 4 rp.ms.length (msV rp.ms)),(1,0,.row 95 4 rp.ms.length (msV rp.ms))] (.pv (.bool true)) 0 []) :
 Fn 26 0 [.ag (qdP rp),.ag (qdP rp)] [] (.pv (.bool true)) 0 []:=
 Fz [] [.od true 0 0 5 95 (some (msV rp.ms)),.od true 1 0 5 95 (some (msV rp.ms)),.t true,.t true,.t true,.t true,.fq [0,1] [.ls 0 rp.ms.length,.ls 1 rp.ms.length] [(0,0,.row 95 4 rp.ms.length (msV rp.ms)),(1,0,.row 95 4 rp.ms.length (msV rp.ms))] (.pv (.bool true)) 0 []]
  tI (Ai (Eq.refl ((msV rp.ms).map Dn.v)) (Ai (Eq.refl ((msV rp.ms).map Dn.v)) (Ai (qd7 rp.e) (Ai (qd7 rp.id) (Ai (qd7 rp.ot) (Ai (qjn rp.n rp.d) (Ai hs (Ai (Ca hs [0,1] 4) (Ai (Ai (qzA 95 95 4 rp.ms.length (msV rp.ms)) (Ai (qzA 95 95 4 rp.ms.length (msV rp.ms)) tI)) tI)))))))))
theorem qyn {tn td:Int} {s:List Pt} (hs:Fn 49 2 [qaq 0 s,qaq 1 s] [(0,0,qad s),(1,0,qad s)] (.pv (.bool true)) 0 []) :
 Fn 24 2 [moS 0 s tn td,moS 1 s tn td] [(0,0,qad s),(1,0,qad s)] (.pv (.bool true)) 0 []:=
 Fz [] [.t true,Cf hs [0,1]]
  tI (Ai (qjn tn td) (Co hs [0,1] 4 tI))
end Go.Proofs.YtleaeldgaflmkaaGreat

namespace Go.Proofs.YtleaeldgaflmkaaGreat
set_option maxRecDepth 100000
open Go.RowKit
theorem qxm {tn td n0 d0:Int} {s:List Pt} {aq:AskQ} (hg:Fn 20 1 [qaq 0 s] [(0,0,qad s)] (.pv (.bool true)) 0 []) :
 Fn 4 1 [.pv (qaa n0 d0),moS 0 s tn td,.pv (qch aq)] [(0,0,qad s)] (.pv (.bool true)) 0 []:=
 Fz [] [Cf hg [0]]
  tI (Co hg [0] 4 tI)
theorem qvC {tn td n' d' e1 e2 e3 n0 d0 na da:Int} {s s':List Pt} {rp:Rep} {aq:AskQ} (hg:Fn 20 1 [qaq 0 s] [(0,0,qad s)] (.pv (.bool false)) 0 []) (ht:Fn 21 1 [moS 0 s tn td] [(0,0,qad s)] (moS 1 s tn td) 1 [(1,0,qad s)]) (hn1:Fn 10 0 [.pv (qaa n0 d0)] [] (.tu [mo1 0 [] na da,.one (.pv (iV e1))]) 1 [(0,0,qad [])]) (hn2:Fn 22 0 [.pv (qaa n0 d0)] [] (.tu [mo1 0 [] na da,.one (.pv (iV e1))]) 1 [(0,0,qad [])]) (hd1:Fn 12 1 [moS 0 s tn td,.pv (qch aq)] [(0,0,qad s)] (.tu [mo1 1 s' n' d',.ag (qdP rp),.one (.pv (iV e2))]) 1 [(1,0,qad s')]) (hd2:Fn 23 1 [moS 0 s tn td,.pv (qch aq)] [(0,0,qad s)] (.tu [mo1 1 s' n' d',.ag (qdP rp),.one (.pv (iV e2))]) 1 [(1,0,qad s')]) (hs0:Fn 24 2 [moS 0 [] na da,moS 1 [] na da] [(0,0,qad []),(1,0,qad [])] (.pv (.bool true)) 0 []) (hc1:Fn 14 1 [moS 0 s tn td] [(0,0,qad s)] (.pv (iV (e3))) 0 []) (hc2:Fn 25 1 [moS 0 s tn td] [(0,0,qad s)] (.pv (iV (e3))) 0 []) (hs1:Fn 24 2 [moS 0 s' n' d',moS 1 s' n' d'] [(0,0,qad s'),(1,0,qad s')] (.pv (.bool true)) 0 []) (hs2:Fn 26 0 [.ag (qdP rp),.ag (qdP rp)] [] (.pv (.bool true)) 0 []) (hs3:Fn 24 2 [moS 0 s tn td,moS 1 s tn td] [(0,0,qad s),(1,0,qad s)] (.pv (.bool true)) 0 []) :
 Fn 4 1 [.pv (qaa n0 d0),moS 0 s tn td,.pv (qch aq)] [(0,0,qad s)] (.pv (.bool true)) 0 []:=
 Fz [] [Cf hg [0],Cf ht [0],Cf hn1 [],Cf hn1 [],Cf hd1 [4],Cf hd1 [0],.md,Cf hs0 [6,8],.t true,Cf hc1 [4],Cf hc1 [0],.t true,Cf hs1 [10,13],Cf hs2 [],.t true,Cf hs3 [4,0]]
  tI (Co hg [0] 4 (Co ht [0] 4 (Co hn1 [] 6 (Co hn2 [] 8 (Co hd1 [4] 10 (Co hd2 [0] 13 (Co hs0 [6,8] 16 (Ai (qd7 e1) (Co hc1 [4] 16 (Co hc2 [0] 16 (Ai (qd7 e3) (Co hs1 [10,13] 16 (Co hs2 [] 16 (Ai (qd7 e2) (Co hs3 [4,0] 16 tI)))))))))))))))
end Go.Proofs.YtleaeldgaflmkaaGreat

namespace Go.Proofs.YtleaeldgaflmkaaGreat
set_option maxRecDepth 100000
open Go.RowKit
theorem qzm {tn td e1 e2:Int} {s:List Pt} (ha:Pure Tryz.prog 40 #[qaa tn td] (iV (e1))) (hc:Fn 44 1 [qaq 0 s] [(0,0,qad s)] (.pv (iV (e2))) 0 []) (he:(e1 !=0)=true) :
 Fn 14 1 [moS 0 s tn td] [(0,0,qad s)] (.pv (iV (8))) 0 []:=
 Fz [] [.md,Rf ha,Cf hc [0],.k,.k,.t true,.t true]
  tI (Ai ha (Co hc [0] 2 (Ai he (Ai he tI))))
theorem qxA {tn td e2:Int} {s:List Pt} (ha:Pure Tryz.prog 40 #[qaa tn td] (iV (0))) (hc:Fn 44 1 [qaq 0 s] [(0,0,qad s)] (.pv (iV (e2))) 0 []) (he:(e2 !=0)=true) :
 Fn 14 1 [moS 0 s tn td] [(0,0,qad s)] (.pv (iV (8))) 0 []:=
 Fz [] [.md,Rf ha,Cf hc [0],.k,.k,.k,.k,.k,.t true,.t true]
  tI (Ai ha (Co hc [0] 2 (Ai he (Ai he tI))))
theorem qyv {tn td:Int} {s:List Pt} (ha:Pure Tryz.prog 40 #[qaa tn td] (iV (0))) (hc:Fn 44 1 [qaq 0 s] [(0,0,qad s)] (.pv (iV (0))) 0 []) :
 Fn 14 1 [moS 0 s tn td] [(0,0,qad s)] (.pv (iV (0))) 0 []:=
 Fz [] [.md,Rf ha,Cf hc [0],.k,.k,.k,.k,.k,.k,.k,.k,.k]
  tI (Ai ha (Co hc [0] 2 tI))
theorem qxr {tn td e1:Int} {s:List Pt} {aq:AskQ} (hc:Fn 14 1 [moS 0 s tn td] [(0,0,qad s)] (.pv (iV (e1))) 0 []) (he:(e1 !=0)=true) :
 Fn 12 1 [moS 0 s tn td,.pv (qch aq)] [(0,0,qad s)] (.pv (.tuple #[.agg #[iV 0,iV 0,.slice none 0 0],.agg #[iV 0,iV 0,iV 0,iV 0,iV 0,.slice none 0 0],iV e1])) 0 []:=
 Fz [] [Cf hc [0],.t true]
  tI (Co hc [0] 5 (Ai he tI))
theorem qxx {tn td n' d':Int} {s s':List Pt} {rp:Rep} {aq:AskQ} (hc:Fn 14 1 [moS 0 s tn td] [(0,0,qad s)] (.pv (iV (0))) 0 []) (hr:Fn 42 2 [moS 0 s tn td,.ls 1 1] [(0,0,qad s),(1,0,qhG [aq])] (.tu [mo1 2 s' n' d',.one (.dv 6 1 (qhv rp))]) 1 [(2,0,qad s')]) (h0:0≤(0:Int)∧(0:Int)<(1:Int)) :
 Fn 12 1 [moS 0 s tn td,.pv (qch aq)] [(0,0,qad s)] (.tu [mo1 1 s' n' d',.ag (qdP rp),.one (.pv (iV 0))]) 1 [(1,0,qad s')]:=
 Fz [(1,6)] [Cf hc [0],.k,.lw,Cf hr [0,5],.od true 9 0 0 38 none,.md,.dr (qdP rp)]
  (qaH (qaF [(1,6)]) [(1,0,qad s')]) (Co hc [0] 5 (Co hr [0,5] 6 (Ai h0 (Ai (qsA rp) tI))))
end Go.Proofs.YtleaeldgaflmkaaGreat

namespace Go.Proofs.YtleaeldgaflmkaaGreat
set_option maxRecDepth 100000
open Go.RowKit
abbrev qrx (d:Int) (n:Int) (qs:List AskQ) (s:List Pt) (s0:List Pt):HpL:=[(2,0,.pv (iV n)),(2,1,.pv (iV d)),(2,2,.ls 4 s.length),(3,0,.pv (iV 0)),(3,1,.pv (iV 0)),(3,2,.pv (.slice none 0 0)),(0,0,qad s0),(1,0,qhG qs),(4,0,qad s),(5,0,.row 38 6 0 [])]
abbrev qrk (qs:List AskQ):TmL:=[(2,.pp 2 0),(4,.pp 3 0),(6,.ls 5 0),(17,.ls 1 qs.length),(18,.pv (iV (qs.length:Int))),(19,.pv (iV (0:Int)))]
abbrev qwL (qs:List AskQ):TmL:=[(2,.pp 2 0),(4,.pp 3 0),(6,.ls 5 (0+1:Nat)),(17,.ls 1 qs.length),(18,.pv (iV (qs.length:Int))),(19,.pv (iV ((0+1:Nat):Int)))]
theorem quj {n d n' d':Int} {s s' s0:List Pt} {rp:Rep} {qs:List AskQ} {aq:AskQ} (hlt:decide (((0:Nat):Int)<(qs.length:Int))=true) (hin:0≤((0:Nat):Int)∧((0:Nat):Int)<(qs.length:Int)) (hk:qs[0]?=some aq) (hd:Fn 69 1 [moS 0 s n d,.pv (qch aq)] [(0,0,qad s)] (.tu [mo1 1 s' n' d',.ag (qdP rp)]) 1 [(1,0,qad s')]) (he:(rp.e==0)=true) (hm:0+1≤1000000) (hs:iV (IntKind.i64.wrap (((0:Nat):Int)+1))=iV (((0+1:Nat):Int))) {e:Exit} {tm2:TmL} {hp2:HpL}
 (r:Rl 2 2 42 0 40 6 (qwL qs) ([(2,0,.pv (iV n')),(2,1,.pv (iV d')),(2,2,.ls 4 s'.length),(3,0,.pv (iV 0)),(3,1,.pv (iV 0)),(3,2,.pv (.slice none 0 0)),(0,0,qad s0),(1,0,qhG qs),(4,0,qad s'),(5,0,.drow 38 6 (0+1) ([]++qhv rp))]) e tm2 hp2):Rl 2 2 42 0 40 6 (qrk qs) (qrx d n qs s s0) e tm2 hp2:=
 RunsL.next [(4,7),(5,11)] 300 [.t true,.r (qch aq),Cf hd [4],.t true,.r (iV (((0+1:Nat):Int)))]
  (Ro (Ai hlt (Ai hin (Ai (qen hk) (Co hd [4] 7 (Ai he (Ai hm (Ai hs tI)))))))) r
abbrev qsG (d:Int) (ds:List Dn) (k:Nat) (n:Int) (qs:List AskQ) (s:List Pt) (s0:List Pt):HpL:=[(2,0,.pv (iV n)),(2,1,.pv (iV d)),(2,2,.ls 4 s.length),(3,0,.pv (iV 0)),(3,1,.pv (iV 0)),(3,2,.pv (.slice none 0 0)),(0,0,qad s0),(1,0,qhG qs),(4,0,qad s),(5,0,.drow 38 6 k ds)]
abbrev qvo (k:Nat) (qs:List AskQ):TmL:=[(2,.pp 2 0),(4,.pp 3 0),(6,.ls 5 k),(17,.ls 1 qs.length),(18,.pv (iV (qs.length:Int))),(19,.pv (iV (k:Int)))]
abbrev qwJ (k:Nat) (qs:List AskQ):TmL:=[(2,.pp 2 0),(4,.pp 3 0),(6,.ls 5 (k+1:Nat)),(17,.ls 1 qs.length),(18,.pv (iV (qs.length:Int))),(19,.pv (iV ((k+1:Nat):Int)))]
theorem qxu {n d n' d':Int} {s s' s0:List Pt} {rp:Rep} {qs:List AskQ} {aq:AskQ} {k:Nat} {ds:List Dn} (hlt:decide ((k:Int)<(qs.length:Int))=true) (hin:0≤(k:Int)∧(k:Int)<(qs.length:Int)) (hk:qs[k]?=some aq) (hd:Fn 69 1 [moS 0 s n d,.pv (qch aq)] [(0,0,qad s)] (.tu [mo1 1 s' n' d',.ag (qdP rp)]) 1 [(1,0,qad s')]) (he:(rp.e==0)=true) (hm:k+1≤1000000) (hs:iV (IntKind.i64.wrap ((k:Int)+1))=iV (((k+1:Nat):Int))) {e:Exit} {tm2:TmL} {hp2:HpL}
 (r:Rl 2 2 42 0 40 6 (qwJ k qs) ([(2,0,.pv (iV n')),(2,1,.pv (iV d')),(2,2,.ls 4 s'.length),(3,0,.pv (iV 0)),(3,1,.pv (iV 0)),(3,2,.pv (.slice none 0 0)),(0,0,qad s0),(1,0,qhG qs),(4,0,qad s'),(5,0,.drow 38 6 (k+1) (ds++qhv rp))]) e tm2 hp2):Rl 2 2 42 0 40 6 (qvo k qs) (qsG d ds k n qs s s0) e tm2 hp2:=
 RunsL.next [(4,7),(5,11)] 300 [.t true,.r (qch aq),Cf hd [4],.t true,Re hs]
  (Ro (Ai hlt (Ai hin (Ai (qen hk) (Co hd [4] 7 (Ai he (Ai hm (Ai hs tI)))))))) r
theorem qwf {n d n' d':Int} {s s0:List Pt} {rp:Rep} {qs:List AskQ} {aq:AskQ} (hlt:decide (((0:Nat):Int)<(qs.length:Int))=true) (hin:0≤((0:Nat):Int)∧((0:Nat):Int)<(qs.length:Int)) (hk:qs[0]?=some aq) (hd:Fn 69 1 [moS 0 s n d,.pv (qch aq)] [(0,0,qad s)] (.tu [mo1 0 s n' d',.ag (qdP rp)]) 0 []) (he:(rp.e==0)=true) (hm:0+1≤1000000) (hs:iV (IntKind.i64.wrap (((0:Nat):Int)+1))=iV (((0+1:Nat):Int))) {e:Exit} {tm2:TmL} {hp2:HpL}
 (r:Rl 2 2 42 0 40 6 (qwL qs) ([(2,0,.pv (iV n')),(2,1,.pv (iV d')),(2,2,.ls 4 s.length),(3,0,.pv (iV 0)),(3,1,.pv (iV 0)),(3,2,.pv (.slice none 0 0)),(0,0,qad s0),(1,0,qhG qs),(4,0,qad s),(5,0,.drow 38 6 (0+1) ([]++qhv rp))]) e tm2 hp2):Rl 2 2 42 0 40 6 (qrk qs) (qrx d n qs s s0) e tm2 hp2:=
 RunsL.next [(5,10)] 300 [.t true,.r (qch aq),Cf hd [4],.t true,.r (iV (((0+1:Nat):Int)))]
  (Ro (Ai hlt (Ai hin (Ai (qen hk) (Co hd [4] 7 (Ai he (Ai hm (Ai hs tI)))))))) r
theorem qy9 {n d n' d':Int} {s s0:List Pt} {rp:Rep} {qs:List AskQ} {aq:AskQ} {k:Nat} {ds:List Dn} (hlt:decide ((k:Int)<(qs.length:Int))=true) (hin:0≤(k:Int)∧(k:Int)<(qs.length:Int)) (hk:qs[k]?=some aq) (hd:Fn 69 1 [moS 0 s n d,.pv (qch aq)] [(0,0,qad s)] (.tu [mo1 0 s n' d',.ag (qdP rp)]) 0 []) (he:(rp.e==0)=true) (hm:k+1≤1000000) (hs:iV (IntKind.i64.wrap ((k:Int)+1))=iV (((k+1:Nat):Int))) {e:Exit} {tm2:TmL} {hp2:HpL}
 (r:Rl 2 2 42 0 40 6 (qwJ k qs) ([(2,0,.pv (iV n')),(2,1,.pv (iV d')),(2,2,.ls 4 s.length),(3,0,.pv (iV 0)),(3,1,.pv (iV 0)),(3,2,.pv (.slice none 0 0)),(0,0,qad s0),(1,0,qhG qs),(4,0,qad s),(5,0,.drow 38 6 (k+1) (ds++qhv rp))]) e tm2 hp2):Rl 2 2 42 0 40 6 (qvo k qs) (qsG d ds k n qs s s0) e tm2 hp2:=
 RunsL.next [(5,10)] 300 [.t true,.r (qch aq),Cf hd [4],.t true,Re hs]
  (Ro (Ai hlt (Ai hin (Ai (qen hk) (Co hd [4] 7 (Ai he (Ai hm (Ai hs tI)))))))) r
theorem qu6 {n d x y:Int} {s s0:List Pt} {rp:Rep} {qs:List AskQ} {aq:AskQ} (hlt:decide (((0:Nat):Int)<(qs.length:Int))=true) (hin:0≤((0:Nat):Int)∧((0:Nat):Int)<(qs.length:Int)) (hk:qs[0]?=some aq) (hd:Fn 69 1 [moS 0 s n d,.pv (qch aq)] [(0,0,qad s)] (.tu [mo1 0 s x y,.ag (qdP rp)]) 0 []) (he:(rp.e==0)=false) (hm:0+1≤1000000) (hs:iV (IntKind.i64.wrap (((0:Nat):Int)+1))=iV (((0+1:Nat):Int))) {e:Exit} {tm2:TmL} {hp2:HpL}
 (r:Rl 2 2 42 0 40 6 (qwL qs) ([(2,0,.pv (iV n)),(2,1,.pv (iV d)),(2,2,.ls 4 s.length),(3,0,.pv (iV 0)),(3,1,.pv (iV 0)),(3,2,.pv (.slice none 0 0)),(0,0,qad s0),(1,0,qhG qs),(4,0,qad s),(5,0,.drow 38 6 (0+1) ([]++qhv rp))]) e tm2 hp2):Rl 2 2 42 0 40 6 (qrk qs) (qrx d n qs s s0) e tm2 hp2:=
 RunsL.next [(5,10)] 300 [.t true,.r (qch aq),Cf hd [4],.t false,.r (iV (((0+1:Nat):Int)))]
  (Ro (Ai hlt (Ai hin (Ai (qen hk) (Co hd [4] 7 (Ai he (Ai hm (Ai hs tI)))))))) r
theorem qyO {n d x y:Int} {s s0:List Pt} {rp:Rep} {qs:List AskQ} {aq:AskQ} {k:Nat} {ds:List Dn} (hlt:decide ((k:Int)<(qs.length:Int))=true) (hin:0≤(k:Int)∧(k:Int)<(qs.length:Int)) (hk:qs[k]?=some aq) (hd:Fn 69 1 [moS 0 s n d,.pv (qch aq)] [(0,0,qad s)] (.tu [mo1 0 s x y,.ag (qdP rp)]) 0 []) (he:(rp.e==0)=false) (hm:k+1≤1000000) (hs:iV (IntKind.i64.wrap ((k:Int)+1))=iV (((k+1:Nat):Int))) {e:Exit} {tm2:TmL} {hp2:HpL}
 (r:Rl 2 2 42 0 40 6 (qwJ k qs) ([(2,0,.pv (iV n)),(2,1,.pv (iV d)),(2,2,.ls 4 s.length),(3,0,.pv (iV 0)),(3,1,.pv (iV 0)),(3,2,.pv (.slice none 0 0)),(0,0,qad s0),(1,0,qhG qs),(4,0,qad s),(5,0,.drow 38 6 (k+1) (ds++qhv rp))]) e tm2 hp2):Rl 2 2 42 0 40 6 (qvo k qs) (qsG d ds k n qs s s0) e tm2 hp2:=
 RunsL.next [(5,10)] 300 [.t true,.r (qch aq),Cf hd [4],.t false,Re hs]
  (Ro (Ai hlt (Ai hin (Ai (qen hk) (Co hd [4] 7 (Ai he (Ai hm (Ai hs tI)))))))) r
theorem qvJ {n d x y:Int} {s s0:List Pt} {rp:Rep} {qs:List AskQ} {aq:AskQ} (hlt:decide (((0:Nat):Int)<(qs.length:Int))=true) (hin:0≤((0:Nat):Int)∧((0:Nat):Int)<(qs.length:Int)) (hk:qs[0]?=some aq) (hd:Fn 69 1 [moS 0 s n d,.pv (qch aq)] [(0,0,qad s)] (.tu [.one (.pv (.agg #[iV x,iV y,.slice none 0 0])),.ag (qdP rp)]) 0 []) (he:(rp.e==0)=false) (hm:0+1≤1000000) (hs:iV (IntKind.i64.wrap (((0:Nat):Int)+1))=iV (((0+1:Nat):Int))) {e:Exit} {tm2:TmL} {hp2:HpL}
 (r:Rl 2 2 42 0 40 6 (qwL qs) ([(2,0,.pv (iV n)),(2,1,.pv (iV d)),(2,2,.ls 4 s.length),(3,0,.pv (iV 0)),(3,1,.pv (iV 0)),(3,2,.pv (.slice none 0 0)),(0,0,qad s0),(1,0,qhG qs),(4,0,qad s),(5,0,.drow 38 6 (0+1) ([]++qhv rp))]) e tm2 hp2):Rl 2 2 42 0 40 6 (qrk qs) (qrx d n qs s s0) e tm2 hp2:=
 RunsL.next [(5,10)] 300 [.t true,.r (qch aq),Cf hd [4],.t false,.r (iV (((0+1:Nat):Int)))]
  (Ro (Ai hlt (Ai hin (Ai (qen hk) (Co hd [4] 7 (Ai he (Ai hm (Ai hs tI)))))))) r
theorem qx7 {n d x y:Int} {s s0:List Pt} {rp:Rep} {qs:List AskQ} {aq:AskQ} {k:Nat} {ds:List Dn} (hlt:decide ((k:Int)<(qs.length:Int))=true) (hin:0≤(k:Int)∧(k:Int)<(qs.length:Int)) (hk:qs[k]?=some aq) (hd:Fn 69 1 [moS 0 s n d,.pv (qch aq)] [(0,0,qad s)] (.tu [.one (.pv (.agg #[iV x,iV y,.slice none 0 0])),.ag (qdP rp)]) 0 []) (he:(rp.e==0)=false) (hm:k+1≤1000000) (hs:iV (IntKind.i64.wrap ((k:Int)+1))=iV (((k+1:Nat):Int))) {e:Exit} {tm2:TmL} {hp2:HpL}
 (r:Rl 2 2 42 0 40 6 (qwJ k qs) ([(2,0,.pv (iV n)),(2,1,.pv (iV d)),(2,2,.ls 4 s.length),(3,0,.pv (iV 0)),(3,1,.pv (iV 0)),(3,2,.pv (.slice none 0 0)),(0,0,qad s0),(1,0,qhG qs),(4,0,qad s),(5,0,.drow 38 6 (k+1) (ds++qhv rp))]) e tm2 hp2):Rl 2 2 42 0 40 6 (qvo k qs) (qsG d ds k n qs s s0) e tm2 hp2:=
 RunsL.next [(5,10)] 300 [.t true,.r (qch aq),Cf hd [4],.t false,Re hs]
  (Ro (Ai hlt (Ai hin (Ai (qen hk) (Co hd [4] 7 (Ai he (Ai hm (Ai hs tI)))))))) r
theorem qrp {n d:Int} {s s0:List Pt} {qs:List AskQ} {k:Nat} {ds:List Dn} (hlt:decide ((k:Int)<(qs.length:Int))=false):Rl 2 2 42 0 40 6 (qvo k qs) (qsG d ds k n qs s s0) (.exit 0) ([(2,.pp 2 0),(4,.pp 3 0),(6,.ls 5 k)]) (qsG d ds k n qs s s0):=
 RunsL.stop [] 300 [.t false] (fun h=>by cases h)
  (Ro (Ai hlt tI))
theorem qpI {n d:Int} {s s0:List Pt} {qs:List AskQ} (hlt:decide (((0:Nat):Int)<(qs.length:Int))=false):Rl 2 2 42 0 40 6 (qrk qs) (qrx d n qs s s0) (.exit 0) ([(2,.pp 2 0),(4,.pp 3 0),(6,.ls 5 0)]) (qrx d n qs s s0):=
 RunsL.stop [] 300 [.t false] (fun h=>by cases h)
  (Ro (Ai hlt tI))
abbrev qzv (qs:List AskQ) (s0:List Pt) (td:Int) (tn:Int):HpL:=[(2,0,.pv (iV tn)),(2,1,.pv (iV td)),(2,2,.ls 4 s0.length),(3,0,.pv (iV 0)),(3,1,.pv (iV 0)),(3,2,.pv (.slice none 0 0)),(0,0,qad s0),(1,0,qhG qs),(4,0,qad s0),(5,0,.row 38 6 0 [])]
theorem qvB {tn td n d:Int} {s s0:List Pt} {qs:List AskQ} {k:Nat} {ds:List Dn} (hc:Fn 68 1 [.ls 0 s0.length] [(0,0,qad s0)] (.ls 1 s0.length) 1 [(1,0,qad s0)]) (r0:Rl 2 2 42 0 40 6 (qrk qs) (qzv qs s0 td tn) (.exit 0) ([(2,.pp 2 0),(4,.pp 3 0),(6,.ls 5 k)]) (qsG d ds k n qs s s0)) :
 Fn 42 2 [moS 0 s0 tn td,.ls 1 qs.length] [(0,0,qad s0),(1,0,qhG qs)] (.tu [mo1 2 s n d,.one (.dv 6 k ds)]) 1 [(2,0,qad s)]:=
 Fz [(2,4)] [Cf hc [0],.ln true 6 0 38 6,Lf r0,.fz true 6 0 0 6 ds]
  (qaH (qaF [(2,4)]) [(2,0,qad s)]) (Co hc [0] 4 (Lo r0 [] (Ai (LeD.refl ds) tI)))
theorem qrC {tn td n d:Int} {s s0:List Pt} {qs:List AskQ} (hc:Fn 68 1 [.ls 0 s0.length] [(0,0,qad s0)] (.ls 1 s0.length) 1 [(1,0,qad s0)]) (r0:Rl 2 2 42 0 40 6 (qrk qs) (qzv qs s0 td tn) (.exit 0) ([(2,.pp 2 0),(4,.pp 3 0),(6,.ls 5 0)]) (qrx d n qs s s0)) :
 Fn 42 2 [moS 0 s0 tn td,.ls 1 qs.length] [(0,0,qad s0),(1,0,qhG qs)] (.tu [mo1 2 s n d,.one (.dv 6 0 [])]) 1 [(2,0,qad s)]:=
 Fz [(2,4)] [Cf hc [0],.ln true 6 0 38 6,Lf r0,.fz true 6 0 0 6 []]
  (qaH (qaF [(2,4)]) [(2,0,qad s)]) (Co hc [0] 4 (Lo r0 [] (Ai (LeD.refl []) tI)))
end Go.Proofs.YtleaeldgaflmkaaGreat
