/-
  Joined: Vj, Hc, Vp. Conditions: none.
-/
import Derived.Test.YtleaeldgaflmkaaGreatW46
import Derived.Test.YtleaeldgaflmkaaGreatW25
import Derived.Test.YtleaeldgaflmkaaGreatW44
import Derived.Test.YtleaeldgaflmkaaGreatW45
import Derived.Test.YtleaeldgaflmkaaGreatW32
import Derived.Test.YtleaeldgaflmkaaGreatW35
import Derived.Test.YtleaeldgaflmkaaGreatW28
import Derived.Test.YtleaeldgaflmkaaGreatW36
import Derived.Test.YtleaeldgaflmkaaGreatW37
namespace Go.Proofs.YtleaeldgaflmkaaGreat
set_option maxRecDepth 100000
open Go.RowKit
theorem qza {pi pa pb z qn qd:Int} {w:Bool} (hf:((1:Int)==1&&((pi==pi&&(pa==pa&&(pb==pb&&true)))&&((z==0)&&((qn==0&&(qd==0&&true))&&true))))=w) :
 Pure Tryz.prog 72 #[.agg #[.int .u8 1,iV pi,iV pa,iV pb,iV z,iV qn,iV qd]] (.bool w):=
 qac (args:=[.agg #[.int .u8 1,iV pi,iV pa,iV pb,iV z,iV qn,iV qd]]) 300 [.k,.t w]
  (Ai rfl (Ai hf tI)) (by kernel_rfl)
theorem qzA {pi pa pb z qn qd:Int} {w:Bool} (hf:((2:Int)==2&&((pi==0&&(pa==0&&(pb==0&&true)))&&((z==z)&&((qn==0&&(qd==0&&true))&&true))))=w) :
 Pure Tryz.prog 72 #[.agg #[.int .u8 2,iV pi,iV pa,iV pb,iV z,iV qn,iV qd]] (.bool w):=
 qac (args:=[.agg #[.int .u8 2,iV pi,iV pa,iV pb,iV z,iV qn,iV qd]]) 300 [.k,.k,.k,.t w]
  (Ai rfl (Ai hf tI)) (by kernel_rfl)
theorem qAK {pi pa pb z qn qd:Int} {w:Bool} (hf:((3:Int)==3&&((pi==pi&&(pa==pa&&(pb==pb&&true)))&&((z==0)&&((qn==0&&(qd==0&&true))&&true))))=w) :
 Pure Tryz.prog 72 #[.agg #[.int .u8 3,iV pi,iV pa,iV pb,iV z,iV qn,iV qd]] (.bool w):=
 qac (args:=[.agg #[.int .u8 3,iV pi,iV pa,iV pb,iV z,iV qn,iV qd]]) 300 [.k,.k,.t w]
  (Ai rfl (Ai hf tI)) (by kernel_rfl)
theorem qzu {pi pa pb z qn qd:Int} {w:Bool} (hf:((4:Int)==4&&((pi==0&&(pa==0&&(pb==0&&true)))&&((z==0)&&((qn==qn&&(qd==qd&&true))&&true))))=w) :
 Pure Tryz.prog 72 #[.agg #[.int .u8 4,iV pi,iV pa,iV pb,iV z,iV qn,iV qd]] (.bool w):=
 qac (args:=[.agg #[.int .u8 4,iV pi,iV pa,iV pb,iV z,iV qn,iV qd]]) 300 [.k,.k,.k,.k,.t w]
  (Ai rfl (Ai hf tI)) (by kernel_rfl)
theorem qAi {pi pa pb z qn qd:Int} {w:Bool} (hf:((5:Int)==5&&((pi==0&&(pa==0&&(pb==0&&true)))&&((z==0)&&((qn==0&&(qd==0&&true))&&true))))=w) :
 Pure Tryz.prog 72 #[.agg #[.int .u8 5,iV pi,iV pa,iV pb,iV z,iV qn,iV qd]] (.bool w):=
 qac (args:=[.agg #[.int .u8 5,iV pi,iV pa,iV pb,iV z,iV qn,iV qd]]) 300 [.k,.k,.k,.k,.k,.t w]
  (Ai rfl (Ai hf tI)) (by kernel_rfl)
theorem qyP {pi pa pb z qn qd:Int} {w:Bool} (hf:((6:Int)==6&&((pi==0&&(pa==0&&(pb==0&&true)))&&((z==0)&&((qn==0&&(qd==0&&true))&&true))))=w) :
 Pure Tryz.prog 72 #[.agg #[.int .u8 6,iV pi,iV pa,iV pb,iV z,iV qn,iV qd]] (.bool w):=
 qac (args:=[.agg #[.int .u8 6,iV pi,iV pa,iV pb,iV z,iV qn,iV qd]]) 300 [.k,.k,.k,.k,.k,.k,.t w]
  (Ai rfl (Ai hf tI)) (by kernel_rfl)
theorem qAA {kd pi pa pb z qn qd:Int} (h1:(kd==1)=false) (h3:(kd==3)=false) (h2:(kd==2)=false) (h4:(kd==4)=false) (h5:(kd==5)=false) (h6:(kd==6)=false) :
 Pure Tryz.prog 72 #[.agg #[.int .u8 kd,iV pi,iV pa,iV pb,iV z,iV qn,iV qd]] (.bool false):=
 qac (args:=[.agg #[.int .u8 kd,iV pi,iV pa,iV pb,iV z,iV qn,iV qd]]) 300 [.t false,.t false,.t false,.t false,.t false,.t false]
  (Ai rfl (Ai h1 (Ai h3 (Ai h2 (Ai h4 (Ai h5 (Ai h6 tI))))))) (by kernel_rfl)
abbrev qn8 (s:List Pt) (td:Int) (tn:Int):Prop:=Fn 21 1 [.ag [.pv (iV tn),.pv (iV td),.ls 0 s.length]] [(0,0,qad s)] (.ag [.pv (iV tn),.pv (iV td),.ls 1 s.length]) 1 [(1,0,qad s)]
theorem qAx {tn td e1 kd pi pa pb z qn qd:Int} {s:List Pt} (ha:Pure Tryz.prog 31 #[qaa qn qd] (iV (e1))) (he:(e1 !=0)=true) (ht:qn8 s td tn) :
 Fn 73 1 [.ag [.pv (iV tn),.pv (iV td),.ls 0 s.length],.pv (.agg #[.int .u8 kd,iV pi,iV pa,iV pb,iV z,iV qn,iV qd])] [(0,0,qad s)] (.tu [.ag [.pv (iV tn),.pv (iV td),.ls 1 s.length],.one (.pv (.agg #[iV (e1),iV (0),iV (0),iV (0),iV (0),.slice none 0 0]))]) 1 [(1,0,qad s)]:=
 Fz [(1,5)] [Rf ha,.t true,Cf ht [0]]
  (qaI (qaG [(1,5)]) [(1,0,qad s)]) (Ai ha (Ai he (Co ht [0] 5 tI)))
theorem qAm {tn td e2 kd pi pa pb z qn qd:Int} {s:List Pt} (ha:Pure Tryz.prog 31 #[qaa qn qd] (iV (0))) (hc:Pure Tryz.prog 33 #[qaa qn qd,qaa tn td] (iV (e2))) (hl:decide (e2≤0)=true) (ht:qn8 s td tn) :
 Fn 73 1 [.ag [.pv (iV tn),.pv (iV td),.ls 0 s.length],.pv (.agg #[.int .u8 kd,iV pi,iV pa,iV pb,iV z,iV qn,iV qd])] [(0,0,qad s)] (.tu [.ag [.pv (iV tn),.pv (iV td),.ls 1 s.length],.one (.pv (.agg #[iV (44),iV (0),iV (0),iV (0),iV (0),.slice none 0 0]))]) 1 [(1,0,qad s)]:=
 Fz [(1,5)] [Rf ha,.k,Rf hc,.t true,Cf ht [0]]
  (qaI (qaG [(1,5)]) [(1,0,qad s)]) (Ai ha (Ai hc (Ai hl (Co ht [0] 5 tI))))
theorem qyM {tn td e2 kd pi pa pb z qn qd:Int} {s:List Pt} {ms:List Mt} (ha:Pure Tryz.prog 31 #[qaa qn qd] (iV (0))) (hc:Pure Tryz.prog 33 #[qaa qn qd,qaa tn td] (iV (e2))) (hl:decide (e2≤0)=false) (ht:qn8 s td tn) (hb:Fn 103 1 [qap 0 s,.pv (qaa tn td),.pv (qaa qn qd)] [(0,0,qad s)] (.ls 1 ms.length) 1 [(1,0,.row 95 4 ms.length (msV ms))]) :
 Fn 73 1 [.ag [.pv (iV tn),.pv (iV td),.ls 0 s.length],.pv (.agg #[.int .u8 kd,iV pi,iV pa,iV pb,iV z,iV qn,iV qd])] [(0,0,qad s)] (.tu [.ag [.pv (iV qn),.pv (iV qd),.ls 1 s.length],.ag [.pv (iV 0),.pv (iV 0),.pv (iV 0),.pv (iV 0),.pv (iV 0),.ls 2 ms.length]]) 2 [(1,0,qad s),(2,0,.row 95 4 ms.length (msV ms))]:=
 Fz [(1,5),(2,7)] [Rf ha,.k,Rf hc,.t false,Cf ht [0],.md,Cf hb [0]]
  (qaI (qaG [(1,5),(2,7)]) [(1,0,qad s),(2,0,.row 95 4 ms.length (msV ms))]) (Ai ha (Ai hc (Ai hl (Co ht [0] 5 (Co hb [0] 7 tI)))))
theorem qwt {tn td e1 pi pa pb z qn qd:Int} {s:List Pt} (hp:Fn 107 1 [qap 0 s,.pv (qab pi pa pb)] [(0,0,qad s)] (.pv (.tuple #[.agg #[.slice none 0 0],iV e1])) 0 []) (he:(e1 !=0)=true) (ht:qn8 s td tn) :
 Fn 78 1 [.ag [.pv (iV tn),.pv (iV td),.ls 0 s.length],.pv (.agg #[.int .u8 1,iV pi,iV pa,iV pb,iV z,iV qn,iV qd])] [(0,0,qad s)] (.tu [.ag [.pv (iV tn),.pv (iV td),.ls 1 s.length],.one (.pv (iV e1))]) 1 [(1,0,qad s)]:=
 Fz [(1,5)] [.k,Cf hp [0],.t true,Cf ht [0]]
  (qaI (qaG [(1,5)]) [(1,0,qad s)]) (Co hp [0] 5 (Ai he (Co ht [0] 5 tI)))
theorem qw8 {tn td pi pa pb z qn qd:Int} {s m:List Pt} (hp:Fn 107 1 [qap 0 s,.pv (qab pi pa pb)] [(0,0,qad s)] (.tu [.ag [.ls 1 m.length],.one (.pv (iV 0))]) 1 [(1,0,qad m)]) :
 Fn 78 1 [.ag [.pv (iV tn),.pv (iV td),.ls 0 s.length],.pv (.agg #[.int .u8 1,iV pi,iV pa,iV pb,iV z,iV qn,iV qd])] [(0,0,qad s)] (.tu [.ag [.pv (iV tn),.pv (iV td),.ls 1 m.length],.one (.pv (iV 0))]) 1 [(1,0,qad m)]:=
 Fz [(1,5)] [.k,Cf hp [0],.k]
  (qaI (qaG [(1,5)]) [(1,0,qad m)]) (Co hp [0] 5 tI)
theorem qvP {tn td e1 pi pa pb z qn qd:Int} {s:List Pt} (hp:Fn 108 1 [qap 0 s,.pv (iV z)] [(0,0,qad s)] (.pv (.tuple #[.agg #[.slice none 0 0],iV e1])) 0 []) (he:(e1 !=0)=true) (ht:qn8 s td tn) :
 Fn 78 1 [.ag [.pv (iV tn),.pv (iV td),.ls 0 s.length],.pv (.agg #[.int .u8 2,iV pi,iV pa,iV pb,iV z,iV qn,iV qd])] [(0,0,qad s)] (.tu [.ag [.pv (iV tn),.pv (iV td),.ls 1 s.length],.one (.pv (iV e1))]) 1 [(1,0,qad s)]:=
 Fz [(1,5)] [.k,.k,Cf hp [0],.t true,Cf ht [0]]
  (qaI (qaG [(1,5)]) [(1,0,qad s)]) (Co hp [0] 5 (Ai he (Co ht [0] 5 tI)))
theorem qxf {tn td pi pa pb z qn qd:Int} {s m:List Pt} (hp:Fn 108 1 [qap 0 s,.pv (iV z)] [(0,0,qad s)] (.tu [.ag [.ls 1 m.length],.one (.pv (iV 0))]) 1 [(1,0,qad m)]) :
 Fn 78 1 [.ag [.pv (iV tn),.pv (iV td),.ls 0 s.length],.pv (.agg #[.int .u8 2,iV pi,iV pa,iV pb,iV z,iV qn,iV qd])] [(0,0,qad s)] (.tu [.ag [.pv (iV tn),.pv (iV td),.ls 1 m.length],.one (.pv (iV 0))]) 1 [(1,0,qad m)]:=
 Fz [(1,5)] [.k,.k,Cf hp [0],.k]
  (qaI (qaG [(1,5)]) [(1,0,qad m)]) (Co hp [0] 5 tI)
theorem qxp {tn td e1 pi pa pb z qn qd:Int} {s:List Pt} (hp:Fn 109 1 [qap 0 s,.pv (qab pi pa pb)] [(0,0,qad s)] (.pv (.tuple #[.agg #[.slice none 0 0],iV e1])) 0 []) (he:(e1 !=0)=true) (ht:qn8 s td tn) :
 Fn 78 1 [.ag [.pv (iV tn),.pv (iV td),.ls 0 s.length],.pv (.agg #[.int .u8 3,iV pi,iV pa,iV pb,iV z,iV qn,iV qd])] [(0,0,qad s)] (.tu [.ag [.pv (iV tn),.pv (iV td),.ls 1 s.length],.one (.pv (iV e1))]) 1 [(1,0,qad s)]:=
 Fz [(1,5)] [.k,.k,Cf hp [0],.t true,Cf ht [0]]
  (qaI (qaG [(1,5)]) [(1,0,qad s)]) (Co hp [0] 5 (Ai he (Co ht [0] 5 tI)))
theorem qvG {tn td pi pa pb z qn qd:Int} {s m:List Pt} (hp:Fn 109 1 [qap 0 s,.pv (qab pi pa pb)] [(0,0,qad s)] (.tu [.ag [.ls 1 m.length],.one (.pv (iV 0))]) 1 [(1,0,qad m)]) :
 Fn 78 1 [.ag [.pv (iV tn),.pv (iV td),.ls 0 s.length],.pv (.agg #[.int .u8 3,iV pi,iV pa,iV pb,iV z,iV qn,iV qd])] [(0,0,qad s)] (.tu [.ag [.pv (iV tn),.pv (iV td),.ls 1 m.length],.one (.pv (iV 0))]) 1 [(1,0,qad m)]:=
 Fz [(1,5)] [.k,.k,Cf hp [0],.k]
  (qaI (qaG [(1,5)]) [(1,0,qad m)]) (Co hp [0] 5 tI)
theorem qy4 {tn td kd pi pa pb z qn qd:Int} {s:List Pt} (hw:Pure Tryz.prog 72 #[.agg #[.int .u8 kd,iV pi,iV pa,iV pb,iV z,iV qn,iV qd]] (.bool false)) (ht:qn8 s td tn) :
 Fn 48 1 [.ag [.pv (iV tn),.pv (iV td),.ls 0 s.length],.pv (.agg #[.int .u8 kd,iV pi,iV pa,iV pb,iV z,iV qn,iV qd])] [(0,0,qad s)] (.tu [.ag [.pv (iV tn),.pv (iV td),.ls 1 s.length],.one (.pv (.agg #[iV (12),iV (0),iV (0),iV (0),iV (0),.slice none 0 0]))]) 1 [(1,0,qad s)]:=
 Fz [(1,5)] [Rf hw,.k,Cf ht [0]]
  (qaI (qaG [(1,5)]) [(1,0,qad s)]) (Ai hw (Co ht [0] 5 tI))
theorem qvr {tn td e1 pi pa pb z qn qd:Int} {s:List Pt} (hw:Pure Tryz.prog 72 #[.agg #[.int .u8 1,iV pi,iV pa,iV pb,iV z,iV qn,iV qd]] (.bool true)) (hc:Fn 78 1 [.ag [.pv (iV tn),.pv (iV td),.ls 0 s.length],.pv (.agg #[.int .u8 1,iV pi,iV pa,iV pb,iV z,iV qn,iV qd])] [(0,0,qad s)] (.tu [.ag [.pv (iV tn),.pv (iV td),.ls 1 s.length],.one (.pv (iV e1))]) 1 [(1,0,qad s)]) :
 Fn 48 1 [.ag [.pv (iV tn),.pv (iV td),.ls 0 s.length],.pv (.agg #[.int .u8 1,iV pi,iV pa,iV pb,iV z,iV qn,iV qd])] [(0,0,qad s)] (.tu [.ag [.pv (iV tn),.pv (iV td),.ls 1 s.length],.one (.pv (.agg #[iV (e1),iV (0),iV (0),iV (0),iV (0),.slice none 0 0]))]) 1 [(1,0,qad s)]:=
 Fz [(1,5)] [Rf hw,.k,.k,.k,.k,Cf hc [0]]
  (qaI (qaG [(1,5)]) [(1,0,qad s)]) (Ai hw (Co hc [0] 5 tI))
theorem qvi {tn td pi pa pb z qn qd:Int} {s m:List Pt} (hw:Pure Tryz.prog 72 #[.agg #[.int .u8 1,iV pi,iV pa,iV pb,iV z,iV qn,iV qd]] (.bool true)) (hc:Fn 78 1 [.ag [.pv (iV tn),.pv (iV td),.ls 0 s.length],.pv (.agg #[.int .u8 1,iV pi,iV pa,iV pb,iV z,iV qn,iV qd])] [(0,0,qad s)] (.tu [.ag [.pv (iV tn),.pv (iV td),.ls 1 m.length],.one (.pv (iV 0))]) 1 [(1,0,qad m)]) :
 Fn 48 1 [.ag [.pv (iV tn),.pv (iV td),.ls 0 s.length],.pv (.agg #[.int .u8 1,iV pi,iV pa,iV pb,iV z,iV qn,iV qd])] [(0,0,qad s)] (.tu [.ag [.pv (iV tn),.pv (iV td),.ls 1 m.length],.one (.pv (.agg #[iV (0),iV (0),iV (0),iV (0),iV (0),.slice none 0 0]))]) 1 [(1,0,qad m)]:=
 Fz [(1,5)] [Rf hw,.k,.k,.k,.k,Cf hc [0]]
  (qaI (qaG [(1,5)]) [(1,0,qad m)]) (Ai hw (Co hc [0] 5 tI))
theorem qwx {tn td e1 pi pa pb z qn qd:Int} {s:List Pt} (hw:Pure Tryz.prog 72 #[.agg #[.int .u8 2,iV pi,iV pa,iV pb,iV z,iV qn,iV qd]] (.bool true)) (hc:Fn 78 1 [.ag [.pv (iV tn),.pv (iV td),.ls 0 s.length],.pv (.agg #[.int .u8 2,iV pi,iV pa,iV pb,iV z,iV qn,iV qd])] [(0,0,qad s)] (.tu [.ag [.pv (iV tn),.pv (iV td),.ls 1 s.length],.one (.pv (iV e1))]) 1 [(1,0,qad s)]) :
 Fn 48 1 [.ag [.pv (iV tn),.pv (iV td),.ls 0 s.length],.pv (.agg #[.int .u8 2,iV pi,iV pa,iV pb,iV z,iV qn,iV qd])] [(0,0,qad s)] (.tu [.ag [.pv (iV tn),.pv (iV td),.ls 1 s.length],.one (.pv (.agg #[iV (e1),iV (0),iV (0),iV (0),iV (0),.slice none 0 0]))]) 1 [(1,0,qad s)]:=
 Fz [(1,5)] [Rf hw,.k,.k,.k,.k,Cf hc [0]]
  (qaI (qaG [(1,5)]) [(1,0,qad s)]) (Ai hw (Co hc [0] 5 tI))
theorem qwb {tn td pi pa pb z qn qd:Int} {s m:List Pt} (hw:Pure Tryz.prog 72 #[.agg #[.int .u8 2,iV pi,iV pa,iV pb,iV z,iV qn,iV qd]] (.bool true)) (hc:Fn 78 1 [.ag [.pv (iV tn),.pv (iV td),.ls 0 s.length],.pv (.agg #[.int .u8 2,iV pi,iV pa,iV pb,iV z,iV qn,iV qd])] [(0,0,qad s)] (.tu [.ag [.pv (iV tn),.pv (iV td),.ls 1 m.length],.one (.pv (iV 0))]) 1 [(1,0,qad m)]) :
 Fn 48 1 [.ag [.pv (iV tn),.pv (iV td),.ls 0 s.length],.pv (.agg #[.int .u8 2,iV pi,iV pa,iV pb,iV z,iV qn,iV qd])] [(0,0,qad s)] (.tu [.ag [.pv (iV tn),.pv (iV td),.ls 1 m.length],.one (.pv (.agg #[iV (0),iV (0),iV (0),iV (0),iV (0),.slice none 0 0]))]) 1 [(1,0,qad m)]:=
 Fz [(1,5)] [Rf hw,.k,.k,.k,.k,Cf hc [0]]
  (qaI (qaG [(1,5)]) [(1,0,qad m)]) (Ai hw (Co hc [0] 5 tI))
theorem qwm {tn td e1 pi pa pb z qn qd:Int} {s:List Pt} (hw:Pure Tryz.prog 72 #[.agg #[.int .u8 3,iV pi,iV pa,iV pb,iV z,iV qn,iV qd]] (.bool true)) (hc:Fn 78 1 [.ag [.pv (iV tn),.pv (iV td),.ls 0 s.length],.pv (.agg #[.int .u8 3,iV pi,iV pa,iV pb,iV z,iV qn,iV qd])] [(0,0,qad s)] (.tu [.ag [.pv (iV tn),.pv (iV td),.ls 1 s.length],.one (.pv (iV e1))]) 1 [(1,0,qad s)]) :
 Fn 48 1 [.ag [.pv (iV tn),.pv (iV td),.ls 0 s.length],.pv (.agg #[.int .u8 3,iV pi,iV pa,iV pb,iV z,iV qn,iV qd])] [(0,0,qad s)] (.tu [.ag [.pv (iV tn),.pv (iV td),.ls 1 s.length],.one (.pv (.agg #[iV (e1),iV (0),iV (0),iV (0),iV (0),.slice none 0 0]))]) 1 [(1,0,qad s)]:=
 Fz [(1,5)] [Rf hw,.k,.k,.k,.k,Cf hc [0]]
  (qaI (qaG [(1,5)]) [(1,0,qad s)]) (Ai hw (Co hc [0] 5 tI))
theorem qwG {tn td pi pa pb z qn qd:Int} {s m:List Pt} (hw:Pure Tryz.prog 72 #[.agg #[.int .u8 3,iV pi,iV pa,iV pb,iV z,iV qn,iV qd]] (.bool true)) (hc:Fn 78 1 [.ag [.pv (iV tn),.pv (iV td),.ls 0 s.length],.pv (.agg #[.int .u8 3,iV pi,iV pa,iV pb,iV z,iV qn,iV qd])] [(0,0,qad s)] (.tu [.ag [.pv (iV tn),.pv (iV td),.ls 1 m.length],.one (.pv (iV 0))]) 1 [(1,0,qad m)]) :
 Fn 48 1 [.ag [.pv (iV tn),.pv (iV td),.ls 0 s.length],.pv (.agg #[.int .u8 3,iV pi,iV pa,iV pb,iV z,iV qn,iV qd])] [(0,0,qad s)] (.tu [.ag [.pv (iV tn),.pv (iV td),.ls 1 m.length],.one (.pv (.agg #[iV (0),iV (0),iV (0),iV (0),iV (0),.slice none 0 0]))]) 1 [(1,0,qad m)]:=
 Fz [(1,5)] [Rf hw,.k,.k,.k,.k,Cf hc [0]]
  (qaI (qaG [(1,5)]) [(1,0,qad m)]) (Ai hw (Co hc [0] 5 tI))
theorem qr7 {tn td e1 pi pa pb z qn qd:Int} {s:List Pt} (hw:Pure Tryz.prog 72 #[.agg #[.int .u8 4,iV pi,iV pa,iV pb,iV z,iV qn,iV qd]] (.bool true)) (hm:Fn 73 1 [.ag [.pv (iV tn),.pv (iV td),.ls 0 s.length],.pv (.agg #[.int .u8 4,iV pi,iV pa,iV pb,iV z,iV qn,iV qd])] [(0,0,qad s)] (.tu [.ag [.pv (iV tn),.pv (iV td),.ls 1 s.length],.one (.pv (.agg #[iV (e1),iV (0),iV (0),iV (0),iV (0),.slice none 0 0]))]) 1 [(1,0,qad s)]) :
 Fn 48 1 [.ag [.pv (iV tn),.pv (iV td),.ls 0 s.length],.pv (.agg #[.int .u8 4,iV pi,iV pa,iV pb,iV z,iV qn,iV qd])] [(0,0,qad s)] (.tu [.ag [.pv (iV tn),.pv (iV td),.ls 1 s.length],.one (.pv (.agg #[iV (e1),iV (0),iV (0),iV (0),iV (0),.slice none 0 0]))]) 1 [(1,0,qad s)]:=
 Fz [(1,5)] [Rf hw,.k,.k,Cf hm [0]]
  (qaI (qaG [(1,5)]) [(1,0,qad s)]) (Ai hw (Co hm [0] 5 tI))
theorem qwQ {tn td pi pa pb z qn qd:Int} {s:List Pt} {ms:List Mt} (hw:Pure Tryz.prog 72 #[.agg #[.int .u8 4,iV pi,iV pa,iV pb,iV z,iV qn,iV qd]] (.bool true)) (hm:Fn 73 1 [.ag [.pv (iV tn),.pv (iV td),.ls 0 s.length],.pv (.agg #[.int .u8 4,iV pi,iV pa,iV pb,iV z,iV qn,iV qd])] [(0,0,qad s)] (.tu [.ag [.pv (iV qn),.pv (iV qd),.ls 1 s.length],.ag [.pv (iV 0),.pv (iV 0),.pv (iV 0),.pv (iV 0),.pv (iV 0),.ls 2 ms.length]]) 2 [(1,0,qad s),(2,0,.row 95 4 ms.length (msV ms))]) :
 Fn 48 1 [.ag [.pv (iV tn),.pv (iV td),.ls 0 s.length],.pv (.agg #[.int .u8 4,iV pi,iV pa,iV pb,iV z,iV qn,iV qd])] [(0,0,qad s)] (.tu [.ag [.pv (iV qn),.pv (iV qd),.ls 1 s.length],.ag [.pv (iV 0),.pv (iV 0),.pv (iV 0),.pv (iV 0),.pv (iV 0),.ls 2 ms.length]]) 2 [(1,0,qad s),(2,0,.row 95 4 ms.length (msV ms))]:=
 Fz [(1,5),(2,6)] [Rf hw,.k,.k,Cf hm [0]]
  (qaI (qaG [(1,5),(2,6)]) [(1,0,qad s),(2,0,.row 95 4 ms.length (msV ms))]) (Ai hw (Co hm [0] 5 tI))
theorem qvR {tn td pi pa pb z qn qd:Int} {s:List Pt} (hw:Pure Tryz.prog 72 #[.agg #[.int .u8 5,iV pi,iV pa,iV pb,iV z,iV qn,iV qd]] (.bool true)) (hl:((s.length:Int)==0)=true) (ht:qn8 s td tn) :
 Fn 48 1 [.ag [.pv (iV tn),.pv (iV td),.ls 0 s.length],.pv (.agg #[.int .u8 5,iV pi,iV pa,iV pb,iV z,iV qn,iV qd])] [(0,0,qad s)] (.tu [.ag [.pv (iV tn),.pv (iV td),.ls 1 s.length],.one (.pv (.agg #[iV (42),iV (0),iV (0),iV (0),iV (0),.slice none 0 0]))]) 1 [(1,0,qad s)]:=
 Fz [(1,5)] [Rf hw,.k,.k,.k,.t true,Cf ht [0]]
  (qaI (qaG [(1,5)]) [(1,0,qad s)]) (Ai hw (Ai hl (Co ht [0] 5 tI)))
theorem qxG {tn td n1 d1 pi pa pb z qn qd id1:Int} {s:List Pt} {p:Pt} {k:Nat} {g:List Int} (hw:Pure Tryz.prog 72 #[.agg #[.int .u8 5,iV pi,iV pa,iV pb,iV z,iV qn,iV qd]] (.bool true)) (hl:((s.length:Int)==0)=false) (h0:0≤(0:Int)∧(0:Int)<(s.length:Int)) (hg:g[0]?=some id1) (ho:Fn 74 1 [qap 0 s,.pv (qaa tn td)] [(0,0,qad s)] (.ls 1 s.length) 1 [(1,0,.row 3 1 s.length (qfK g))]) (ht:qn8 s td tn) (hk:Fn 76 1 [qap 0 s,.pv (iV id1)] [(0,0,qad s)] (.pv (iV (k:Int))) 0 []) (hk1:0≤(k:Int)∧(k:Int)<(s.length:Int)) (hk2:s[k]?=some p) (hq:Pure Tryz.prog 75 #[qab p.id p.a p.b,qaa tn td] (qaa n1 d1)) :
 Fn 48 1 [.ag [.pv (iV tn),.pv (iV td),.ls 0 s.length],.pv (.agg #[.int .u8 5,iV pi,iV pa,iV pb,iV z,iV qn,iV qd])] [(0,0,qad s)] (.tu [.ag [.pv (iV tn),.pv (iV td),.ls 1 s.length],.one (.pv (.agg #[iV (0),iV (id1),iV (0),iV (n1),iV (d1),.slice none 0 0]))]) 1 [(1,0,qad s)]:=
 Fz [(1,6)] [Rf hw,.k,.k,.k,.t false,Cf ho [0],.r (iV id1),.md,Cf ht [0],Cf hk [0],.r (ptV p),Rf hq]
  (qaI (qaG [(1,6)]) [(1,0,qad s)]) (Ai hw (Ai hl (Co ho [0] 5 (Ai h0 (Ai (qwS hg) (Co ht [0] 6 (Co hk [0] 7 (Ai hk1 (Ai (qa4 hk2) (Ai hq tI))))))))))
theorem qwL {tn td pi pa pb z qn qd:Int} {s:List Pt} (hw:Pure Tryz.prog 72 #[.agg #[.int .u8 6,iV pi,iV pa,iV pb,iV z,iV qn,iV qd]] (.bool true)) (hl:decide ((s.length:Int)<2)=true) (ht:qn8 s td tn) :
 Fn 48 1 [.ag [.pv (iV tn),.pv (iV td),.ls 0 s.length],.pv (.agg #[.int .u8 6,iV pi,iV pa,iV pb,iV z,iV qn,iV qd])] [(0,0,qad s)] (.tu [.ag [.pv (iV tn),.pv (iV td),.ls 1 s.length],.one (.pv (.agg #[iV (42),iV (0),iV (0),iV (0),iV (0),.slice none 0 0]))]) 1 [(1,0,qad s)]:=
 Fz [(1,5)] [Rf hw,.k,.k,.k,.k,.t true,Cf ht [0]]
  (qaI (qaG [(1,5)]) [(1,0,qad s)]) (Ai hw (Ai hl (Co ht [0] 5 tI)))
theorem qxB {tn td n1 d1 pi pa pb z qn qd id1 id2:Int} {s:List Pt} (hw:Pure Tryz.prog 72 #[.agg #[.int .u8 6,iV pi,iV pa,iV pb,iV z,iV qn,iV qd]] (.bool true)) (hl:decide ((s.length:Int)<2)=false) (hp:Fn 77 1 [qap 0 s,.pv (qaa tn td)] [(0,0,qad s)] (.pv (.tuple #[iV id1,iV id2,qaa n1 d1])) 0 []) (ht:qn8 s td tn) :
 Fn 48 1 [.ag [.pv (iV tn),.pv (iV td),.ls 0 s.length],.pv (.agg #[.int .u8 6,iV pi,iV pa,iV pb,iV z,iV qn,iV qd])] [(0,0,qad s)] (.tu [.ag [.pv (iV tn),.pv (iV td),.ls 1 s.length],.one (.pv (.agg #[iV (0),iV (id1),iV (id2),iV (n1),iV (d1),.slice none 0 0]))]) 1 [(1,0,qad s)]:=
 Fz [(1,6)] [Rf hw,.k,.k,.k,.k,.t false,Cf hp [0],.md,Cf ht [0]]
  (qaI (qaG [(1,6)]) [(1,0,qad s)]) (Ai hw (Ai hl (Co hp [0] 5 (Co ht [0] 6 tI))))
end Go.Proofs.YtleaeldgaflmkaaGreat

namespace Go.Proofs.YtleaeldgaflmkaaGreat
set_option maxRecDepth 100000
open Go.RowKit
noncomputable def ldr (l:List Pt) (n d:Int):Pt:=open Classical in if h:∃ s,Srt l n d s then h.choose.headD ⟨0,0,0⟩ else ⟨0,0,0⟩
theorem qgG {l s:List Pt} {n d:Int} (h:Srt l n d s) (hne:l≠[]):s[0]?=some (ldr l n d):=by
 have hex:∃ s,Srt l n d s:=⟨s,h⟩
 have e:=hex.choose_spec.uniq h
 unfold ldr
 rw[dif_pos hex,e]
 cases s with
 | nil=>have:=h.perm.length_eq;exact (hne (List.length_eq_zero_iff.1 this.symm)).elim
 | cons a r=>rfl
theorem qoG {l:List Pt} (hv:Val l) (n d:Int) (hne:l≠[]):ldr l n d∈l:=by
 obtain⟨s,hs⟩:=qeB (tn:=n) (td:=d) hv
 exact hs.perm.mem_iff.1 (List.mem_of_getElem? (qgG hs hne))
theorem qsa {l:List Pt} (hv:Val l) {n d:Int} {q:Pt} (hq:q∈l):ld n d q (ldr l n d)=false:=by
 have hne:l≠[]:=fun e=>by rw[e] at hq;cases hq
 obtain⟨s,hs⟩:=qeB (tn:=n) (td:=d) hv
 have h0:=qgG hs hne
 cases s with
 | nil=>cases h0
 | cons a r=>
  simp at h0
  rw[← h0]
  have hq':=hs.perm.mem_iff.2 hq
  rcases List.mem_cons.1 hq' with e | hr
  ·rw[e];exact qe3 _
  ·exact qik ((List.pairwise_cons.1 hs.pw).1 q hr)
theorem qvn {l:List Pt} (hv:Val l) {n d:Int} {p:Pt} (hp:p∈l) (h:∀ q∈l,ld n d q p=false):ldr l n d=p:=by
 have hne:l≠[]:=fun e=>by rw[e] at hp;cases hp
 have hm:=qoG hv n d hne
 by_cases e:(ldr l n d).id=p.id
 ·exact qn4 hv hm hp e
 ·have h1:=qsa hv (n:=n) (d:=d) hp
  have h2:=qr3 (fun e'=>e e'.symm) h1
  rw[h _ hm] at h2
  cases h2
theorem qkA {l:List Pt} {n d:Int} (hv:Val l) (ht:Tm n d) (hne:l≠[]):qrT 35 l n d (ldr l n d).id 0:=by
 obtain⟨s,hs⟩:=qeB (tn:=n) (td:=d) hv
 have hl:0<l.length:=List.length_pos_iff.2 hne
 have c:=qmU ht.hn ht.hd l
 rw[qwH hv ht.ok] at c
 exact qlZ c (by rw[beq_eq_false_iff_ne];omega) (qtg hv ht hs (qgG hs hne))
theorem qhG {n d:Int} (ht:Tm n d):qrT 35 [] n d 0 42:=by
 have c:=qmU ht.hn ht.hd []
 rw[qwH nlv ht.ok] at c
 exact qp4 c (by decide)
where nlv:Val ([]:List Pt):=⟨by decide,by simp,qxb (by decide)⟩
noncomputable def qdP (p q:Pt):Option Mt:=if p.b<q.b then fM (p,q) else none
theorem qmO {p q:Pt} (h:¬ p.b<q.b):qdP p q=none:=if_neg h
theorem qlb {p q:Pt} (h1:qcg p=true) (h2:qcg q=true) (h:p.b<q.b):∃ m,qdP p q=some m∧MSpec p q m:=by
 unfold qdP
 rw[if_pos h]
 exact qg1 (x:=(p,q)) h1 h2 (by show p.b≠q.b;omega)
theorem qdb {p q:Pt} (h1:qcg p=true) (h2:qcg q=true) {m:Mt} (h:qdP p q=some m):p.b<q.b∧MSpec p q m:=by
 by_cases hb:p.b<q.b
 ·obtain⟨m',h3,h4⟩:=qlb h1 h2 hb
  rw[h] at h3;cases h3
  exact⟨hb,h4⟩
 ·rw[qmO hb] at h;cases h
noncomputable def qqQ (p:Pt) (acc:Option Mt) (q:Pt):Option Mt:=
 match qdP p q with
 | none=>acc
 | some m=>match acc with
  | none=>some m
  | some f=>if (m.n*f.d-f.n*m.d).sign<0 then some m else some f
noncomputable def qzq (p:Pt) (l:List Pt):Option Mt:=l.foldl (qqQ p) none
def qnv (p:Pt) (X:List Pt):Option Mt→Prop
 | none=>∀ q∈X,qdP p q=none
 | some m=>(∃ q∈X,qdP p q=some m)∧∀ q∈X,∀ m',qdP p q=some m'→m.n*m'.d-m'.n*m.d≤0
theorem qkX {p:Pt} {X:List Pt} {acc:Option Mt} {q:Pt} (hp:qcg p=true) (hX:∀ q∈X,qcg q=true) (hq:qcg q=true) (h:qnv p X acc):qnv p (X++[q]) (qqQ p acc q):=by
 unfold qqQ
 cases hn:qdP p q with
 | none=>
  cases acc with
  | none=>
   intro r hr;rcases List.mem_append.1 hr with hr | hr
   ·exact h r hr
   ·simp at hr;rw[hr];exact hn
  | some f=>
   obtain⟨⟨r,hr,h1⟩,h2⟩:=h
   refine⟨⟨r,List.mem_append_left _ hr,h1⟩,fun r hr m' hm'=>?_⟩
   rcases List.mem_append.1 hr with hr | hr
   ·exact h2 r hr m' hm'
   ·simp at hr;rw[hr,hn] at hm';cases hm'
 | some m=>
  have okm:=(qdb hp hq hn).2
  have dm:=qax okm.ok
  cases acc with
  | none=>
   refine⟨⟨q,by simp,hn⟩,fun r hr m' hm'=>?_⟩
   rcases List.mem_append.1 hr with hr | hr
   ·rw[h r hr] at hm';cases hm'
   ·simp at hr;rw[hr,hn] at hm';cases hm';omega
  | some f=>
   obtain⟨⟨r,hr,h1⟩,h2⟩:=h
   have okf:=(qdb hp (hX r hr) h1).2
   have df':=qax okf.ok
   show qnv p (X++[q]) (if (m.n*f.d-f.n*m.d).sign<0 then some m else some f)
   by_cases hs:(m.n*f.d-f.n*m.d).sign<0
   ·rw[if_pos hs]
    have hneg:m.n*f.d-f.n*m.d<0:=by rcases qgB (m.n*f.d-f.n*m.d) with ⟨w,z⟩ | ⟨w,z⟩ | ⟨w,z⟩<;>omega
    refine⟨⟨q,by simp,hn⟩,fun r' hr' m' hm'=>?_⟩
    rcases List.mem_append.1 hr' with hr' | hr'
    ·have okm':=(qdb hp (hX r' hr') hm').2
     have dm':=qax okm'.ok
     have e1:=h2 r' hr' m' hm'
     have:=qsi (an:=m'.n) (ad:=m'.d) (bn:=f.n) (bd:=f.d) (cn:=m.n) (cd:=m.d) (by omega) (by omega) (by omega) (by omega) (by omega)
     omega
    ·simp at hr';rw[hr',hn] at hm';cases hm';omega
   ·rw[if_neg hs]
    have hge:m.n*f.d-f.n*m.d≥0:=by rcases qgB (m.n*f.d-f.n*m.d) with ⟨w,z⟩ | ⟨w,z⟩ | ⟨w,z⟩<;>omega
    refine⟨⟨r,List.mem_append_left _ hr,h1⟩,fun r' hr' m' hm'=>?_⟩
    rcases List.mem_append.1 hr' with hr' | hr'
    ·exact h2 r' hr' m' hm'
    ·simp at hr';rw[hr',hn] at hm';cases hm';omega
theorem qf4 {p:Pt} {l:List Pt} (hv:Val l) (hp:qcg p=true):∀ k,k≤l.length→qnv p (l.take k) ((l.take k).foldl (qqQ p) none)
 | 0,_=>by intro q hq;simp at hq
 | k+1,h=>by
  obtain⟨q,hq⟩:=qal (l:=l) (k:=k) (by omega)
  rw[qbA hq,List.foldl_append]
  exact qkX hp (fun r hr=>hv.ok r (List.mem_of_mem_take hr)) (hv.ok q (List.mem_of_getElem? hq)) (qf4 hv hp k (by omega))
theorem qv7 {p:Pt} {l:List Pt} (hv:Val l) (hp:qcg p=true):qnv p l (qzq p l):=by
 have:=qf4 hv hp l.length (Nat.le_refl _)
 rw[List.take_length] at this
 exact this
abbrev qBD (a:Option Mt):Int:=match a with | some m=>m.n | none=>0
abbrev qBG (a:Option Mt):Int:=match a with | some m=>m.d | none=>0
end Go.Proofs.YtleaeldgaflmkaaGreat

namespace Go.Proofs.YtleaeldgaflmkaaGreat
set_option maxRecDepth 100000
open Go.RowKit
abbrev qci (a:AskQ):Value:=.agg #[.int .u8 a.kd,iV a.pi,iV a.pa,iV a.pb,iV a.z,iV a.qn,iV a.qd]
abbrev qb2 (r:Rep):List S0:=[.pv (iV r.e),.pv (iV r.id),.pv (iV r.ot),.pv (iV r.n),.pv (iV r.d),.dv 4 r.ms.length ((msV r.ms).map .v)]
abbrev moS (k:Nat) (s:List Pt) (n d:Int):SV:=.ag [.pv (iV n),.pv (iV d),.ls k s.length]
abbrev mo1 (k:Nat) (s:List Pt) (n d:Int):S1:=.ag [.pv (iV n),.pv (iV d),.ls k s.length]
def wfB (a:AskQ):Bool:=
 if a.kd=1∨a.kd=3 then a.z==0&&(a.qn==0&&a.qd==0)
 else if a.kd=2 then a.pi==0&&(a.pa==0&&(a.pb==0&&(a.qn==0&&a.qd==0)))
 else if a.kd=4 then a.pi==0&&(a.pa==0&&(a.pb==0&&a.z==0))
 else if a.kd=5∨a.kd=6 then a.pi==0&&(a.pa==0&&(a.pb==0&&(a.z==0&&(a.qn==0&&a.qd==0))))
 else false
theorem quG (a:AskQ):Pure Tryz.prog 94 #[qci a] (.bool (wfB a))∧Pure Tryz.prog 72 #[qci a] (.bool (wfB a)):=by
 obtain⟨kd,pi,pa,pb,z,qn,qd⟩:=a
 by_cases h1:kd=1
 ·subst h1;exact⟨qAh (hf:=by simp[wfB]),qza (hf:=by simp[wfB])⟩
 by_cases h2:kd=2
 ·subst h2;exact⟨qz4 (hf:=by simp[wfB,Bool.and_assoc]),qzA (hf:=by simp[wfB,Bool.and_assoc])⟩
 by_cases h3:kd=3
 ·subst h3;exact⟨qzh (hf:=by simp[wfB]),qAK (hf:=by simp[wfB])⟩
 by_cases h4:kd=4
 ·subst h4;exact⟨qz5 (hf:=by simp[wfB,Bool.and_assoc]),qzu (hf:=by simp[wfB,Bool.and_assoc])⟩
 by_cases h5:kd=5
 ·subst h5;exact⟨qzp (hf:=by simp[wfB,Bool.and_assoc]),qAi (hf:=by simp[wfB,Bool.and_assoc])⟩
 by_cases h6:kd=6
 ·subst h6;exact⟨qz6 (hf:=by simp[wfB,Bool.and_assoc]),qyP (hf:=by simp[wfB,Bool.and_assoc])⟩
 have hw:wfB ⟨kd,pi,pa,pb,z,qn,qd⟩=false:=by simp[wfB,h1,h2,h3,h4,h5,h6]
 rw[hw]
 exact⟨qzG (h1:=by simp[h1]) (h2:=by simp[h2]) (h3:=by simp[h3]) (h4:=by simp[h4]) (h5:=by simp[h5]) (h6:=by simp[h6]),qAA (h1:=by simp[h1]) (h2:=by simp[h2]) (h3:=by simp[h3]) (h4:=by simp[h4]) (h5:=by simp[h5]) (h6:=by simp[h6])⟩
section
variable {s:List Pt} {n d:Int} {a:AskQ}
inductive Done (s:List Pt) (n d:Int) (a:AskQ) (r:Rep) (n' d':Int) (s':List Pt):Prop where
 | new (he:r.e=0) (h:Fn 69 1 [moS 0 s n d,.pv (qci a)] [(0,0,qad s)] (.tu [mo1 1 s' n' d',.ag (qb2 r)]) 1 [(1,0,qad s')])
 | old (he:r.e=0) (hs:s'=s) (h:Fn 69 1 [moS 0 s n d,.pv (qci a)] [(0,0,qad s)] (.tu [mo1 0 s n' d',.ag (qb2 r)]) 0 [])
 | err (he:r.e≠0) (x y:Int) (h:Fn 69 1 [moS 0 s n d,.pv (qci a)] [(0,0,qad s)] (.tu [mo1 0 s x y,.ag (qb2 r)]) 0 [])
 | non (he:r.e≠0) (x y:Int) (h:Fn 69 1 [moS 0 s n d,.pv (qci a)] [(0,0,qad s)] (.tu [.one (.pv (.agg #[iV x,iV y,.slice none 0 0])),.ag (qb2 r)]) 0 [])
abbrev qpr (s:List Pt) (n d:Int) (a:AskQ) (r:Rep) (n' d':Int) (s':List Pt):Prop:=
 Fn 48 1 [moS 0 s n d,.pv (qci a)] [(0,0,qad s)] (.tu [mo1 1 s' n' d',.ag (qb2 r)]) 2 [(1,0,qad s')]
abbrev qeX (e:Int):Rep:=⟨e,0,0,0,0,[]⟩
noncomputable def qiB (s:List Pt) (n d:Int) (a:AskQ):Int:=open Classical in
 if wfB a=false then 12
 else if a.kd=1 then (if ¬ okP a.pi a.pa a.pb=true then 8 else if ∃ p∈s,p.id=a.pi then 14 else if s.length=64 then 18 else 0)
 else if a.kd=2 then (if ∃ p∈s,p.id=a.z then 0 else 6)
 else if a.kd=3 then (if ¬ okP a.pi a.pa a.pb=true then 8 else if ∃ p∈s,p.id=a.pi then 0 else 6)
 else if a.kd=4 then (if qev a.qn a.qd≠0 then qev a.qn a.qd else if n*a.qd<a.qn*d then 0 else 44)
 else if a.kd=5 then (if s=[] then 42 else 0)
 else (if s.length<2 then 42 else 0)
structure Outc (s:List Pt) (n d:Int) (a:AskQ) (r:Rep) (n' d':Int) (s':List Pt):Prop where
 val:Val s'
 ask:AskT n' d'
 few:r.ms.length≤100000
 ee:r.e=qiB s n d a
 keep:a.kd=5∨a.kd=6→n'=n∧d'=d∧s'=s
 err:r.e≠0→r=qeX r.e∧s'=s∧n'=n∧d'=d
 ref:qpr s n d a r n' d' s'
 prg:Done s n d a r n' d' s'
 k1:a.kd=1→wfB a=true→okP a.pi a.pa a.pb=true→(∀ p∈s,p.id≠a.pi)→s.length<64→r=qeX 0∧n'=n∧d'=d∧s'=qu5 ⟨a.pi,a.pa,a.pb⟩ s
 k4:a.kd=4→wfB a=true→AskT a.qn a.qd→n*a.qd<a.qn*d→r=⟨0,0,0,0,0,qj9 s n d a.qn a.qd⟩∧n'=a.qn∧d'=a.qd∧s'=s
 k5:a.kd=5→wfB a=true→(s=[]∧r.e=42)∨(s≠[]∧∃ N D,r=⟨0,(ldr s n d).id,0,N,D,[]⟩∧okB N D=true∧I64 N∧I64 D∧N*d=plS (ldr s n d) n d*D)
 k6:a.kd=6→wfB a=true→(s.length<2∧r.e=42)∨(2≤s.length∧∃ N D,r=⟨0,(ptK s (qb6 s n d).1).id,(ptK s (qb6 s n d).2).id,N,D,[]⟩∧DisI s n d (qb6 s n d) N D)
theorem qcl {n' d':Int} {s':List Pt} {e id ot N D:Int} (h:Fn 48 1 [moS 0 s n d,.pv (qci a)] [(0,0,qad s)] (.tu [mo1 1 s' n' d',.one (.pv (.agg #[iV e,iV id,iV ot,iV N,iV D,.slice none 0 0]))]) 1 [(1,0,qad s')]):qpr s n d a ⟨e,id,ot,N,D,[]⟩ n' d' s':=
 qxK (by decide) (qgM h fun β v ⟨vs,hl,hv⟩=>match vs,hl with
  | [p,q],⟨hp,hq,_⟩=>⟨[p,q],⟨hp,⟨[iV e,iV id,iV ot,iV N,iV D,.slice none 0 0],⟨rfl,rfl,rfl,rfl,rfl,qlN,tI⟩,hq⟩,tI⟩,hv⟩)
theorem qxx {n' d':Int} {s':List Pt} {ms:List Mt} (h:Fn 48 1 [moS 0 s n d,.pv (qci a)] [(0,0,qad s)] (.tu [mo1 1 s' n' d',.ag [.pv (iV 0),.pv (iV 0),.pv (iV 0),.pv (iV 0),.pv (iV 0),.ls 2 ms.length]]) 2 [(1,0,qad s'),(2,0,.row 95 4 ms.length (msV ms))]):qpr s n d a ⟨0,0,0,0,0,ms⟩ n' d' s':=
 qso (j:=2) h (by decide) rfl fun β β' v u hle hg hd ⟨vs,hl,hv⟩=>match vs,hl with
  | [p,q],⟨hp,⟨xs,hx,hq⟩,_⟩=>match xs,hx with
   | [x0,x1,x2,x3,x4,x5],⟨e0,e1,e2,e3,e4,⟨e5,_⟩,_⟩=>⟨[p,q],⟨S1.is_mono hle hp,⟨[x0,x1,x2,x3,x4,x5],⟨e0,e1,e2,e3,e4,by rw[hg] at e5;cases e5;exact hd,tI⟩,hq⟩,tI⟩,hv⟩
theorem qvO (h:Fn 69 1 [moS 0 s n d,.pv (qci a)] [(0,0,qad s)] (.pv (.tuple #[.agg #[iV 0,iV 0,.slice none 0 0],.agg #[iV 12,iV 0,iV 0,iV 0,iV 0,.slice none 0 0]])) 0 []) {n' d':Int} {s':List Pt}:Done s n d a (qeX 12) n' d' s':=
 .non (by decide) 0 0 (qgM h fun β v hv=>⟨[_,_],⟨rfl,⟨[iV 12,iV 0,iV 0,iV 0,iV 0,.slice none 0 0],⟨rfl,rfl,rfl,rfl,rfl,qlN,tI⟩,rfl⟩,tI⟩,hv⟩)
end
end Go.Proofs.YtleaeldgaflmkaaGreat
