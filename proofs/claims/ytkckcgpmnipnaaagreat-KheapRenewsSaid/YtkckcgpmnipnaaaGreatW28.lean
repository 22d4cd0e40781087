/-
  Joined: Ym, Yn. Conditions: none.
-/
import Derived.Test.YtkckcgpmnipnaaaGreatW27
import Derived.Test.YtkckcgpmnipnaaaGreatW16
namespace Go.Proofs.YtkckcgpmnipnaaaGreat
set_option maxRecDepth 100000
open Go.RowKit
variable {x y m:Ev} {c z:Int} {u fr wh:List Int} {b:List Bool} {ev:List Ev} {k j q:Nat}
abbrev qEG (c:Int) (x:Ev) (y:Ev):Prop:=Pure Tryz.prog 40 #[qab x.n x.d,qab y.n y.d] (iV c)
theorem qF1 (hc:qEG c x y) (h1:decide (c<0)=true):Pure Tryz.prog 187 #[qaa x,qaa y] (.bool true):=
 qaJ (args:=[qaa x,qaa y]) 300 [Rf hc,.t true] (A3 rfl hc h1 tI) (by kernel_rfl)
theorem qGM (hc:qEG c x y) (h1:decide (c<0)=false) (h2:(c==0)=false):Pure Tryz.prog 187 #[qaa x,qaa y] (.bool false):=
 qaJ (args:=[qaa x,qaa y]) 300 [Rf hc,.t false,.t false] (A4 rfl hc h1 h2 tI) (by kernel_rfl)
theorem ql1 (hc:qEG c x y) (h1:decide (c<0)=false) (h2:(c==0)=true) (h3:decide (x.k<y.k)=true):Pure Tryz.prog 187 #[qaa x,qaa y] (.bool true):=
 qaJ (args:=[qaa x,qaa y]) 300 [Rf hc,.t false,.t true,.t true] (A5 rfl hc h1 h2 h3 tI) (by kernel_rfl)
theorem qj7 (hc:qEG c x y) (h1:decide (c<0)=false) (h2:(c==0)=true) (h3:decide (x.k<y.k)=false):Pure Tryz.prog 187 #[qaa x,qaa y] (.bool false):=
 qaJ (args:=[qaa x,qaa y]) 300 [Rf hc,.t false,.t true,.t false] (A5 rfl hc h1 h2 h3 tI) (by kernel_rfl)
abbrev qik (b:List Bool) (ev:List Ev) (fr:List Int) (u:List Int) (wh:List Int):HpL:=[(0,0,zrI u),(1,0,zrB b),(2,0,zrI fr),(3,0,qap ev),(4,0,zrI wh)]
theorem qJL (hg:Fn 135 3 [.ag [.ls 0 u.length,.ls 1 b.length,.ls 2 fr.length]] (yi u b fr) (.pv (.bool true)) 0 []) :
 Fn 69 5 [agA u b fr ev wh] (qik b ev fr u wh) (.pv (.bool true)) 0 []:=
 Fz [] [Cf hg [0,1,2]]
  tI (Co hg [0,1,2] 6 tI)
abbrev qFE (b:List Bool) (fr:List Int) (u:List Int):Prop:=Fn 135 3 [.ag [.ls 0 u.length,.ls 1 b.length,.ls 2 fr.length]] [(0,0,zrI u),(1,0,zrB b),(2,0,zrI fr)] (.pv (.bool false)) 0 []
theorem qJT (hg:qFE b fr u) (h1:Dt ((ev.length:Int)>210)) :
 Fn 69 5 [agA u b fr ev wh] (qik b ev fr u wh) (.pv (.bool true)) 0 []:=
 Fz [] [Cf hg [0,1,2],.t true]
  tI (Co hg [0,1,2] 6 (Ai h1 tI))
theorem qxQ (hg:qFE b fr u) (h1:Df ((ev.length:Int)>210)) (h2:decide ((wh.length:Int)>210)=true) :
 Fn 69 5 [agA u b fr ev wh] (qik b ev fr u wh) (.pv (.bool true)) 0 []:=
 Fz [] [Cf hg [0,1,2],.t false,.t true]
  tI (Co hg [0,1,2] 6 (A2 h1 h2 tI))
theorem qrM (hg:qFE b fr u) (h1:Df ((ev.length:Int)>210)) (h2:Df ((wh.length:Int)>210)) :
 Fn 69 5 [agA u b fr ev wh] (qik b ev fr u wh) (.pv (.bool false)) 0 []:=
 Fz [] [Cf hg [0,1,2],.t false,.t false]
  tI (Co hg [0,1,2] 6 (A2 h1 h2 tI))
abbrev qdj (b:List Bool) (ev:List Ev) (fr:List Int) (u:List Int) (wh:List Int):HpL:=[(5,0,.ls 0 u.length),(5,1,.ls 1 b.length),(5,2,.ls 2 fr.length),(5,3,.ls 3 ev.length),(5,4,.ls 4 wh.length),(0,0,zrI u),(1,0,zrB b),(2,0,zrI fr),(3,0,qap ev),(4,0,zrI wh)]
abbrev qut (k:Nat) (u:List Int):TmL:=[(1,.pp 5 0),(3,.pv (iV (u.length:Int))),(4,.pv (iV (k:Int)))]
theorem qyL (hb:b[k]?=some false) (hib:Bd k b.length) (hiw:Bd k wh.length) (hw:wh[k]?=some z) (hlt:Dt ((k:Int)<(u.length:Int))) (hz:(!(z==-1))=false) (hs:iV (IntKind.i64.wrap ((k:Int)+1))=iV (((k+1:Nat):Int))) {e:Exit} {tm2:TmL} {hp2:HpL}
 (r:Rl 5 5 186 0 82 6 ([(1,.pp 5 0),(3,.pv (iV (u.length:Int))),(4,.pv (iV ((k+1:Nat):Int)))]) (qdj b ev fr u wh) e tm2 hp2):Rl 5 5 186 0 82 6 (qut k u) (qdj b ev fr u wh) e tm2 hp2:=
 RunsL.next [] 300 [.t true,.r (.bool false),.k,.r (iV (z)),.t false,Re hs]
  (Ro (A7 hlt hib (qcM hb) hiw (qbb hw) hz hs tI)) r
theorem qzg (hb:b[k]?=some false) (hib:0≤(k:Int)∧(k:Int)<(b.length:Int)) (hiw:0≤(k:Int)∧(k:Int)<(wh.length:Int)) (hw:wh[k]?=some z) (hlt:decide ((k:Int)<(u.length:Int))=true) (hz:(!(z==-1))=true):Rl 5 5 186 0 82 6 (qut k u) (qdj b ev fr u wh) (.ret) ([(2,.pv (.bool false))]) ([]):=
 RunsL.stop [] 300 [.t true,.r (.bool false),.k,.r (iV (z)),.t true] (fun h=>by cases h)
  (Ro (A6 hlt hib (qcM hb) hiw (qbb hw) hz tI))
theorem qAR (hb:b[k]?=some true) (hib:Bd k b.length) (hiw:Bd k wh.length) (hw:wh[k]?=some z) (hlt:Dt ((k:Int)<(u.length:Int))) (h0:decide (z<0)=true):Rl 5 5 186 0 82 6 (qut k u) (qdj b ev fr u wh) (.ret) ([(2,.pv (.bool false))]) ([]):=
 RunsL.stop [] 300 [.t true,.r (.bool true),.k,.r (iV (z)),.t true] (fun h=>by cases h)
  (Ro (A6 hlt hib (qcM hb) hiw (qbb hw) h0 tI))
theorem qAK (hb:b[k]?=some true) (hib:Bd k b.length) (hiw:Bd k wh.length) (hw:wh[k]?=some z) (hlt:Dt ((k:Int)<(u.length:Int))) (h0:Df (z<0)) (h1:decide (z≥(ev.length:Int))=true):Rl 5 5 186 0 82 6 (qut k u) (qdj b ev fr u wh) (.ret) ([(2,.pv (.bool false))]) ([]):=
 RunsL.stop [] 300 [.t true,.r (.bool true),.k,.r (iV (z)),.t false,.t true] (fun h=>by cases h)
  (Ro (A7 hlt hib (qcM hb) hiw (qbb hw) h0 h1 tI))
theorem qEi (hb:b[k]?=some true) (hib:0≤(k:Int)∧(k:Int)<(b.length:Int)) (hiw:0≤(k:Int)∧(k:Int)<(wh.length:Int)) (hw:wh[k]?=some z) (hlt:decide ((k:Int)<(u.length:Int))=true) (h0:decide (z<0)=false) (h1:decide (z≥(ev.length:Int))=false) (hx:ev[z.toNat]?=some x) (hiz:0≤z∧z<(ev.length:Int)) (h2:(!(x.i==(k:Int)))=true):Rl 5 5 186 0 82 6 (qut k u) (qdj b ev fr u wh) (.ret) ([(2,.pv (.bool false))]) ([]):=
 RunsL.stop [] 300 [.t true,.r (.bool true),.k,.r (iV (z)),.t false,.t false,.r (iV (x.i)),.t true] (fun h=>by cases h)
  (Ro (A9 hlt hib (qcM hb) hiw (qbb hw) h0 h1 hiz (qfy hx) (Ai h2 tI)))
theorem qy1 (hb:b[k]?=some true) (hib:Bd k b.length) (hiw:Bd k wh.length) (hw:wh[k]?=some z) (hlt:Dt ((k:Int)<(u.length:Int))) (h0:Df (z<0)) (h1:Df (z≥(ev.length:Int))) (hx:ev[z.toNat]?=some x) (hiz:0≤z∧z<(ev.length:Int)) (h2:(!(x.i==(k:Int)))=false) (hl:Fn 189 3 [.ag [.ls 0 u.length,.ls 1 b.length,.ls 2 fr.length],.pv (qaK x.i x.w)] (yi u b fr) (.pv (.bool false)) 0 []):Rl 5 5 186 0 82 6 (qut k u) (qdj b ev fr u wh) (.ret) ([(2,.pv (.bool false))]) ([]):=
 RunsL.stop [] 300 [.t true,.r (.bool true),.k,.r (iV (z)),.t false,.t false,.r (iV (x.i)),.t false,.r (qaK x.i x.w),Cf hl [0,1,2],.k] (fun h=>by cases h)
  (Ro (A9 hlt hib (qcM hb) hiw (qbb hw) h0 h1 hiz (qfy hx) (A3 h2 hiz (qzy hx) (Co hl [0,1,2] 6 tI))))
theorem qyf (hb:b[k]?=some true) (hib:Bd k b.length) (hiw:Bd k wh.length) (hw:wh[k]?=some z) (hlt:Dt ((k:Int)<(u.length:Int))) (h0:Df (z<0)) (h1:Df (z≥(ev.length:Int))) (hx:ev[z.toNat]?=some x) (hiz:0≤z∧z<(ev.length:Int)) (h2:(!(x.i==(k:Int)))=false) (hl:Fn 189 3 [.ag [.ls 0 u.length,.ls 1 b.length,.ls 2 fr.length],.pv (qaK x.i x.w)] (yi u b fr) (.pv (.bool true)) 0 []) (hs:iV (IntKind.i64.wrap ((k:Int)+1))=iV (((k+1:Nat):Int))) {e:Exit} {tm2:TmL} {hp2:HpL}
 (r:Rl 5 5 186 0 82 6 ([(1,.pp 5 0),(3,.pv (iV (u.length:Int))),(4,.pv (iV ((k+1:Nat):Int)))]) (qdj b ev fr u wh) e tm2 hp2):Rl 5 5 186 0 82 6 (qut k u) (qdj b ev fr u wh) e tm2 hp2:=
 RunsL.next [] 300 [.t true,.r (.bool true),.k,.r (iV (z)),.t false,.t false,.r (iV (x.i)),.t false,.r (qaK x.i x.w),Cf hl [0,1,2],.k,Re hs]
  (Ro (A9 hlt hib (qcM hb) hiw (qbb hw) h0 h1 hiz (qfy hx) (A3 h2 hiz (qzy hx) (Co hl [0,1,2] 6 (Ai hs tI))))) r
theorem qzI (hge:decide ((k:Int)<(u.length:Int))=false):Rl 5 5 186 0 82 6 (qut k u) (qdj b ev fr u wh) (.exit 0) ([]) ([]):=
 RunsL.stop [] 300 [.t false] (fun h=>by cases h)
  (Ro (Ai hge tI))
theorem qBH (h1:(!((wh.length:Int)==(u.length:Int)))=true) :
 Fn 186 5 [agA u b fr ev wh] (qik b ev fr u wh) (.pv (.bool false)) 0 []:=
 Fz [] [.t true]
  tI (Ai h1 tI)
theorem qAz (h1:(!((wh.length:Int)==(u.length:Int)))=false) (h2:iV (IntKind.i64.wrap ((u.length:Int)-(fr.length:Int)))=iV (z)) (h3:(!((ev.length:Int)==z))=true) :
 Fn 186 5 [agA u b fr ev wh] (qik b ev fr u wh) (.pv (.bool false)) 0 []:=
 Fz [] [.t false,Re h2,.t true]
  tI (A3 h1 h2 h3 tI)
theorem qIv (h1:(!((wh.length:Int)==(u.length:Int)))=false) (h2:iV (IntKind.i64.wrap ((u.length:Int)-(fr.length:Int)))=iV (z)) (h3:(!((ev.length:Int)==z))=false) (r0:Rl 5 5 186 0 82 6 ([(1,.pp 5 0),(3,.pv (iV (u.length:Int))),(4,.pv (iV ((0:Nat):Int)))]) (qdj b ev fr u wh) (.ret) ([(2,.pv (.bool false))]) ([])) :
 Fn 186 5 [agA u b fr ev wh] (qik b ev fr u wh) (.pv (.bool false)) 0 []:=
 Fz [] [.t false,Re h2,.t false,Lf r0]
  tI (A3 h1 h2 h3 (Lo r0 [] tI))
theorem qC0 (h1:(!((wh.length:Int)==(u.length:Int)))=false) (h2:iV (IntKind.i64.wrap ((u.length:Int)-(fr.length:Int)))=iV (z)) (h3:(!((ev.length:Int)==z))=false) (r0:Rl 5 5 186 0 82 6 ([(1,.pp 5 0),(3,.pv (iV (u.length:Int))),(4,.pv (iV ((0:Nat):Int)))]) (qdj b ev fr u wh) (.exit 0) ([]) ([])) :
 Fn 186 5 [agA u b fr ev wh] (qik b ev fr u wh) (.pv (.bool true)) 0 []:=
 Fz [] [.t false,Re h2,.t false,Lf r0]
  tI (A3 h1 h2 h3 (Lo r0 [] tI))
abbrev qzr (b:List Bool) (ev:List Ev) (fr:List Int) (m:Ev) (u:List Int) (wh:List Int):HpL:=[(6,0,.pv (iV m.n)),(6,1,.pv (iV m.d)),(6,2,.pv (iV m.k)),(6,3,.pv (iV m.i)),(6,4,.pv (iV m.w)),(5,0,.ls 0 u.length),(5,1,.ls 1 b.length),(5,2,.ls 2 fr.length),(5,3,.ls 3 ev.length),(5,4,.ls 4 wh.length),(0,0,zrI u),(1,0,zrB b),(2,0,zrI fr),(3,0,qap ev),(4,0,zrI wh)]
abbrev qG4 (j:Nat) (k:Nat):TmL:=[(1,.pp 5 0),(3,.pv (iV (k:Int))),(4,.pp 6 0),(5,.pv (iV (j:Int)))]
theorem qzT (hj:ev[j]?=some y) (hij:0≤(j:Int)∧(j:Int)<(ev.length:Int)) (hlt:decide ((j:Int)<(k:Int))=true) (hq:(y.k==m.k)=false) (hs:iV (IntKind.i64.wrap ((j:Int)+1))=iV (((j+1:Nat):Int))) {e:Exit} {tm2:TmL} {hp2:HpL}
 (r:Rl 5 5 123 1 76 7 ([(1,.pp 5 0),(3,.pv (iV (k:Int))),(4,.pp 6 0),(5,.pv (iV ((j+1:Nat):Int)))]) (qzr b ev fr m u wh) e tm2 hp2):Rl 5 5 123 1 76 7 (qG4 j k) (qzr b ev fr m u wh) e tm2 hp2:=
 RunsL.next [] 300 [.t true,.r (iV (y.k)),.t false,Re hs]
  (Ro (A5 hlt hij (qI6 hj) hq hs tI)) r
theorem qsQ (hj:ev[j]?=some y) (hij:0≤(j:Int)∧(j:Int)<(ev.length:Int)) (hlt:decide ((j:Int)<(k:Int))=true) (hq:(y.k==m.k)=true):Rl 5 5 123 1 76 7 (qG4 j k) (qzr b ev fr m u wh) (.ret) ([(2,.pv (iV 8))]) ([]):=
 RunsL.stop [] 300 [.t true,.r (iV (y.k)),.t true] (fun h=>by cases h)
  (Ro (A4 hlt hij (qI6 hj) hq tI))
abbrev quB (k:Nat):TmL:=[(1,.pp 5 0),(3,.pv (iV (k:Int)))]
theorem qq9 (hge:decide ((j:Int)<(k:Int))=false):Rl 5 5 123 1 76 7 (qG4 j k) (qzr b ev fr m u wh) (.exit 2) (quB k) (qdj b ev fr u wh):=
 RunsL.stop [] 300 [.t false] (fun h=>by cases h)
  (Ro (Ai hge tI))
theorem qAX (hk:ev[k]?=some m) (hin:Bd k ev.length) (hlt:Dt ((k:Int)<(ev.length:Int))) (hc:Pure Tryz.prog 45 #[qab m.n m.d] (iV (8))):Rl 5 5 123 0 76 6 (quB k) (qdj b ev fr u wh) (.ret) ([(2,.pv (iV 8))]) ([]):=
 RunsL.stop [] 300 [.t true,.r (qaa m),Rf hc,.k] (fun h=>by cases h)
  (Ro (A4 hlt hin (qaF hk) hc tI))
abbrev qtK (m:Ev):Prop:=Pure Tryz.prog 45 #[qab m.n m.d] (iV (0))
theorem qDC (hk:ev[k]?=some m) (hin:Bd k ev.length) (hlt:Dt ((k:Int)<(ev.length:Int))) (hc:qtK m) (h1:decide (m.k<0)=true):Rl 5 5 123 0 76 6 (quB k) (qdj b ev fr u wh) (.ret) ([(2,.pv (iV 8))]) ([]):=
 RunsL.stop [] 300 [.t true,.r (qaa m),Rf hc,.k,.t true] (fun h=>by cases h)
  (Ro (A5 hlt hin (qaF hk) hc h1 tI))
theorem qCp (hk:ev[k]?=some m) (hin:Bd k ev.length) (hlt:Dt ((k:Int)<(ev.length:Int))) (hc:qtK m) (h1:Df (m.k<0)) (h2:decide (m.k>1000000)=true):Rl 5 5 123 0 76 6 (quB k) (qdj b ev fr u wh) (.ret) ([(2,.pv (iV 8))]) ([]):=
 RunsL.stop [] 300 [.t true,.r (qaa m),Rf hc,.k,.t false,.t true] (fun h=>by cases h)
  (Ro (A6 hlt hin (qaF hk) hc h1 h2 tI))
theorem qy6 (hk:ev[k]?=some m) (hin:0≤(k:Int)∧(k:Int)<(ev.length:Int)) (hlt:decide ((k:Int)<(ev.length:Int))=true) (hc:qtK m) (h1:decide (m.k<0)=false) (h2:decide (m.k>1000000)=false) (r1:Rl 5 5 123 1 76 7 ([(1,.pp 5 0),(3,.pv (iV (k:Int))),(4,.pp 6 0),(5,.pv (iV ((0:Nat):Int)))]) (qzr b ev fr m u wh) (.exit 2) (quB k) (qdj b ev fr u wh)) (hs:iV (IntKind.i64.wrap ((k:Int)+1))=iV (((k+1:Nat):Int))) {e:Exit} {tm2:TmL} {hp2:HpL}
 (r:Rl 5 5 123 0 76 6 ([(1,.pp 5 0),(3,.pv (iV ((k+1:Nat):Int)))]) (qdj b ev fr u wh) e tm2 hp2):Rl 5 5 123 0 76 6 (quB k) (qdj b ev fr u wh) e tm2 hp2:=
 RunsL.next [] 300 [.t true,.r (qaa m),Rf hc,.k,.t false,.t false,Lf r1,Re hs]
  (Ro (A6 hlt hin (qaF hk) hc h1 h2 (Lo r1 [] (Ai hs tI)))) r
theorem qD1 (hk:ev[k]?=some m) (hin:Bd k ev.length) (hlt:Dt ((k:Int)<(ev.length:Int))) (hc:qtK m) (h1:Df (m.k<0)) (h2:Df (m.k>1000000)) (r1:Rl 5 5 123 1 76 7 ([(1,.pp 5 0),(3,.pv (iV (k:Int))),(4,.pp 6 0),(5,.pv (iV ((0:Nat):Int)))]) (qzr b ev fr m u wh) (.ret) ([(2,.pv (iV 8))]) ([])):Rl 5 5 123 0 76 6 (quB k) (qdj b ev fr u wh) (.ret) ([(2,.pv (iV 8))]) ([]):=
 RunsL.stop [] 300 [.t true,.r (qaa m),Rf hc,.k,.t false,.t false,Lf r1] (fun h=>by cases h)
  (Ro (A6 hlt hin (qaF hk) hc h1 h2 (Lo r1 [] tI)))
theorem qA0 (hge:decide ((k:Int)<(ev.length:Int))=false):Rl 5 5 123 0 76 6 (quB k) (qdj b ev fr u wh) (.exit 0) ([(1,.pp 5 0)]) (qdj b ev fr u wh):=
 RunsL.stop [] 300 [.t false] (fun h=>by cases h)
  (Ro (Ai hge tI))
theorem qnO (hk:ev[k]?=some x) (hin:Bd k ev.length) (hj:ev[j]?=some y) (hij:Bd j ev.length) (hlt:Dt ((k:Int)<(ev.length:Int))) (hm:iV (IntKind.i64.wrap ((k:Int)-1))=iV (q:Int)) (nz:¬ (2:Int)=0) (hd:iV (IntKind.i64.wrap (Int.tdiv (q:Int) 2))=iV (j:Int)) (hl:ya x y) (hs:iV (IntKind.i64.wrap ((k:Int)+1))=iV (((k+1:Nat):Int))) {e:Exit} {tm2:TmL} {hp2:HpL}
 (r:Rl 5 5 123 2 76 6 ([(1,.pp 5 0),(6,.pv (iV ((k+1:Nat):Int)))]) (qdj b ev fr u wh) e tm2 hp2):Rl 5 5 123 2 76 6 ([(1,.pp 5 0),(6,.pv (iV (k:Int)))]) (qdj b ev fr u wh) e tm2 hp2:=
 RunsL.next [] 300 [.t true,.r (qaa x),Re hm,Re hd,.r (qaa y),Rf hl,Re hs]
  (Ro (A9 hlt hin (qaF hk) hm nz hd hij (qaF hj) hl (Ai hs tI))) r
theorem qA2 (hk:ev[k]?=some x) (hin:Bd k ev.length) (hj:ev[j]?=some y) (hij:Bd j ev.length) (hlt:Dt ((k:Int)<(ev.length:Int))) (hm:iV (IntKind.i64.wrap ((k:Int)-1))=iV (q:Int)) (nz:¬ (2:Int)=0) (hd:iV (IntKind.i64.wrap (Int.tdiv (q:Int) 2))=iV (j:Int)) (hl:Pure Tryz.prog 187 #[qaa x,qaa y] (.bool true)):Rl 5 5 123 2 76 6 ([(1,.pp 5 0),(6,.pv (iV (k:Int)))]) (qdj b ev fr u wh) (.ret) ([(2,.pv (iV 8))]) ([]):=
 RunsL.stop [] 300 [.t true,.r (qaa x),Re hm,Re hd,.r (qaa y),Rf hl] (fun h=>by cases h)
  (Ro (A9 hlt hin (qaF hk) hm nz hd hij (qaF hj) hl tI))
theorem qt5 (hge:decide ((k:Int)<(ev.length:Int))=false):Rl 5 5 123 2 76 6 ([(1,.pp 5 0),(6,.pv (iV (k:Int)))]) (qdj b ev fr u wh) (.exit 4) ([]) ([]):=
 RunsL.stop [] 300 [.t false] (fun h=>by cases h)
  (Ro (Ai hge tI))
theorem qxD (hs6:Fn 185 3 [.ag [.ls 0 u.length,.ls 1 b.length,.ls 2 fr.length]] (yi u b fr) (.pv (iV (8))) 0 []) :
 Fn 123 5 [agA u b fr ev wh] (qik b ev fr u wh) (.pv (iV (8))) 0 []:=
 Fz [] [Cf hs6 [0,1,2],.k]
  tI (Co hs6 [0,1,2] 6 tI)
abbrev qEO (b:List Bool) (fr:List Int) (u:List Int):Prop:=Fn 185 3 [.ag [.ls 0 u.length,.ls 1 b.length,.ls 2 fr.length]] [(0,0,zrI u),(1,0,zrB b),(2,0,zrI fr)] (.pv (iV (0))) 0 []
theorem qDy (hs6:qEO b fr u) (hpl:Fn 186 5 [agA u b fr ev wh] (qik b ev fr u wh) (.pv (.bool false)) 0 []) :
 Fn 123 5 [agA u b fr ev wh] (qik b ev fr u wh) (.pv (iV (8))) 0 []:=
 Fz [] [Cf hs6 [0,1,2],.k,Cf hpl [0,1,2,3,4],.k]
  tI (Co hs6 [0,1,2] 6 (Co hpl [0,1,2,3,4] 6 tI))
theorem qAT (hs6:qEO b fr u) (hpl:Fn 186 5 [agA u b fr ev wh] (qik b ev fr u wh) (.pv (.bool true)) 0 []) (r0:Rl 5 5 123 0 76 6 (yab) (qdj b ev fr u wh) (.ret) ([(2,.pv (iV 8))]) ([])) :
 Fn 123 5 [agA u b fr ev wh] (qik b ev fr u wh) (.pv (iV (8))) 0 []:=
 Fz [] [Cf hs6 [0,1,2],.k,Cf hpl [0,1,2,3,4],.k,Lf r0]
  tI (Co hs6 [0,1,2] 6 (Co hpl [0,1,2,3,4] 6 (Lo r0 [] tI)))
theorem qA3 (hs6:qEO b fr u) (hpl:Fn 186 5 [agA u b fr ev wh] (qik b ev fr u wh) (.pv (.bool true)) 0 []) (r0:Rl 5 5 123 0 76 6 (yab) (qdj b ev fr u wh) (.exit 0) ([(1,.pp 5 0)]) (qdj b ev fr u wh)) (r2:Rl 5 5 123 2 76 6 ([(1,.pp 5 0),(6,.pv (iV ((1:Nat):Int)))]) (qdj b ev fr u wh) (.ret) ([(2,.pv (iV 8))]) ([])) :
 Fn 123 5 [agA u b fr ev wh] (qik b ev fr u wh) (.pv (iV (8))) 0 []:=
 Fz [] [Cf hs6 [0,1,2],.k,Cf hpl [0,1,2,3,4],.k,Lf r0,Lf r2]
  tI (Co hs6 [0,1,2] 6 (Co hpl [0,1,2,3,4] 6 (Lo r0 [] (Lo r2 [] tI))))
theorem qAn (hs6:qEO b fr u) (hpl:Fn 186 5 [agA u b fr ev wh] (qik b ev fr u wh) (.pv (.bool true)) 0 []) (r0:Rl 5 5 123 0 76 6 (yab) (qdj b ev fr u wh) (.exit 0) ([(1,.pp 5 0)]) (qdj b ev fr u wh)) (r2:Rl 5 5 123 2 76 6 ([(1,.pp 5 0),(6,.pv (iV ((1:Nat):Int)))]) (qdj b ev fr u wh) (.exit 4) ([]) ([])) :
 Fn 123 5 [agA u b fr ev wh] (qik b ev fr u wh) (.pv (iV (0))) 0 []:=
 Fz [] [Cf hs6 [0,1,2],.k,Cf hpl [0,1,2,3,4],.k,Lf r0,Lf r2]
  tI (Co hs6 [0,1,2] 6 (Co hpl [0,1,2,3,4] 6 (Lo r0 [] (Lo r2 [] tI))))
end Go.Proofs.YtkckcgpmnipnaaaGreat

namespace Go.Proofs.YtkckcgpmnipnaaaGreat
set_option maxRecDepth 100000
open Go.RowKit
theorem qwt {a b:Int}:decide ((a-b).sign<0)=decide (a<b):=by
 by_cases h:a<b
 ·rw[decide_eq_true h,decide_eq_true (by rw[Int.sign_eq_neg_one_of_neg (by omega)];omega)]
 ·rw[decide_eq_false h];apply decide_eq_false
  rcases Int.lt_trichotomy (a-b) 0 with g | g | g
  ·omega
  ·rw[g];decide
  ·rw[Int.sign_eq_one_of_pos g];omega
theorem qxw {a b:Int}:((a-b).sign==0)=decide (a=b):=by
 by_cases h:a=b
 ·subst h;simp
 ·rw[decide_eq_false h]
  have:(a-b).sign≠0:=fun e=>h (by have:=Int.sign_eq_zero_iff_zero.1 e;omega)
  simpa using this
theorem qaC {x y:Ev} (hx:EvI x) (hy:EvI y):Pure Tryz.prog 187 #[qaa x,qaa y] (.bool (ltE x y)):=by
 have hc:=qi6 hx.1 hx.2 hy.1 hy.2;have e1:=qwt (a:=x.n*y.d) (b:=y.n*x.d);have e2:=qxw (a:=x.n*y.d) (b:=y.n*x.d);by_cases h1:x.n*y.d<y.n*x.d
 ·have:ltE x y=true:=by simp[ltE,h1]
  rw[this];exact qF1 hc (by rw[e1];exact decide_eq_true h1)
 ·by_cases h2:x.n*y.d=y.n*x.d
  ·have:ltE x y=decide (x.k<y.k):=by simp[ltE,h2]
   rw[this];cases h3:decide (x.k<y.k)
   ·exact qj7 hc (by rw[e1];exact decide_eq_false h1) (by rw[e2];exact decide_eq_true h2) h3
   ·exact ql1 hc (by rw[e1];exact decide_eq_false h1) (by rw[e2];exact decide_eq_true h2) h3
  ·have:ltE x y=false:=by simp[ltE,h1,h2]
   rw[this];exact qGM hc (by rw[e1];exact decide_eq_false h1) (by rw[e2];exact decide_eq_false h2)
section
variable {u fr wh:List Int} {b:List Bool} {ev:List Ev}
def qja (u:List Int) (b:List Bool) (fr:List Int) (ev:List Ev) (wh:List Int):Bool:=qbZ u b fr||(decide (ev.length>210)||decide (wh.length>210))
theorem qmb:Fn 69 5 [agA u b fr ev wh] (agP u b fr ev wh) (.pv (.bool (qja u b fr ev wh))) 0 []:=by
 unfold qja;cases h1:qbZ u b fr
 ·rw[Bool.false_or];by_cases h2:ev.length>210
  ·rw[decide_eq_true h2,Bool.true_or];exact qJT (qhj h1) (decide_eq_true (by omega))
  ·rw[decide_eq_false h2,Bool.false_or];by_cases h3:wh.length>210
   ·rw[decide_eq_true h3];exact qxQ (qhj h1) (decide_eq_false (by omega)) (decide_eq_true (by omega))
   ·rw[decide_eq_false h3];exact qrM (qhj h1) (decide_eq_false (by omega)) (decide_eq_false (by omega))
 ·exact qJL (qpj h1)
theorem qod (b:List Bool):(b.map not).count true+b.count true=b.length:=by
 induction b with
 | nil=>rfl
 | cons c r ih=>cases c<;>simp<;>omega
theorem Vd.count (h:Vd u b fr):b.count true+fr.length=u.length:=by
 have hf:qe2 b fr=true:=by
  have:=qcx.2 h;unfold qcQ at this;simp only[Bool.and_eq_true] at this;exact this.2
 unfold qe2 at hf;split at hf
 ·rename_i g hg;have h1:=qcj hg;have h2:g.count true=0:=List.count_eq_zero.2 (fun hm=>by simp[hm] at hf);have h3:=qod b;have h4:=h.len;omega
 ·cases hf
abbrev plT (u:List Int) (k:Nat):List (Nat×SV):=[(1,.pp 5 0),(3,.pv (iV (u.length:Int))),(4,.pv (iV (k:Int)))]
theorem qhJ (h:Vd u b fr) (hw:wh.length=u.length) {k:Nat} (hk:k<u.length) :
 (whB u b ev wh k=true→∀ {e:Exit} {tm2:TmL} {hp2:HpL},Rl 5 5 186 0 82 6 (plT u (k+1)) (wfH u b fr ev wh) e tm2 hp2→Rl 5 5 186 0 82 6 (plT u k) (wfH u b fr ev wh) e tm2 hp2)∧
 (whB u b ev wh k=false→Rl 5 5 186 0 82 6 (plT u k) (wfH u b fr ev wh) .ret [(2,.pv (.bool false))] []):=by
 have hle:=h.le;have hbl:=h.len;have hb:b[k]?=some (b[k]'(by omega)):=List.getElem?_eq_getElem (by omega);obtain⟨z,hz⟩:∃ z,wh[k]?=some z:=⟨_,List.getElem?_eq_getElem (by omega)⟩;obtain⟨c,hc⟩:∃ c,u[k]?=some c:=⟨_,List.getElem?_eq_getElem hk⟩
 have i1:0≤(k:Int)∧(k:Int)<(b.length:Int):=by omega
 have i2:0≤(k:Int)∧(k:Int)<(wh.length:Int):=by omega
 have lt:decide ((k:Int)<(u.length:Int))=true:=decide_eq_true (by omega);generalize b[k]'(by omega)=bk at hb;cases bk
 ·by_cases h1:z = -1
  ·subst h1
   have e:whB u b ev wh k=true:=by simp[whB,hb,hz]
   rw[e];exact⟨fun _ {_ _ _} r=>qyL hb i1 i2 hz lt (by decide) (qaL (by omega)) r,fun h=>by cases h⟩
  ·have e:whB u b ev wh k=false:=by simp[whB,hb,hz,h1]
   rw[e];exact⟨(fun h=>by cases h),fun _=>qzg hb i1 i2 hz lt (by simpa using h1)⟩
 ·have e0:whB u b ev wh k=qbd u ev wh k:=by simp[whB,hb]
  rw[e0];by_cases h0:z<0
  ·have e:qbd u ev wh k=false:=by simp[qbd,hz,hc];omega
   rw[e];exact⟨(fun h=>by cases h),fun _=>qAR hb i1 i2 hz lt (decide_eq_true h0)⟩
  ·by_cases h1:z≥(ev.length:Int)
   ·have hx:ev[z.toNat]?=none:=List.getElem?_eq_none (by omega)
    have e:qbd u ev wh k=false:=by simp[qbd,hz,hc,hx]
    rw[e];exact⟨(fun h=>by cases h),fun _=>qAK hb i1 i2 hz lt (decide_eq_false h0) (decide_eq_true h1)⟩
   ·obtain⟨x,hx⟩:∃ x,ev[z.toNat]?=some x:=⟨_,List.getElem?_eq_getElem (by omega)⟩
    have iz:0≤z∧z<(ev.length:Int):=by omega
    by_cases h2:x.i=(k:Int)
    ·have n2:(!(x.i==(k:Int)))=false:=by simp[h2]
     by_cases h3:x.w=c
     ·have e:qbd u ev wh k=true:=by simp[qbd,hz,hc,hx,h2,h3];omega
      rw[e];have hl:Live u b x.i x.w:=⟨by omega,by omega,by rw[show x.i.toNat=k by omega];exact hb,by rw[show x.i.toNat=k by omega,hc,h3]⟩;exact⟨fun _ {_ _ _} r=>qyf hb i1 i2 hz lt (decide_eq_false h0) (decide_eq_false h1) hx iz n2 (qhZ h hl) (qaL (by omega)) r,fun h=>by cases h⟩
     ·have e:qbd u ev wh k=false:=by simp[qbd,hz,hc,hx,h3]
      rw[e]
      have hl:¬ Live u b x.i x.w:=fun hl=>h3 (by
       have:=hl.use;rw[show x.i.toNat=k by omega,hc] at this
       exact (Option.some.inj this).symm)
      exact⟨(fun h=>by cases h),fun _=>qy1 hb i1 i2 hz lt (decide_eq_false h0) (decide_eq_false h1) hx iz n2 (qkD h hl)⟩
    ·have e:qbd u ev wh k=false:=by simp[qbd,hz,hc,hx,h2]
     rw[e];exact⟨(fun h=>by cases h),fun _=>qEi hb i1 i2 hz lt (decide_eq_false h0) (decide_eq_false h1) hx iz (by simpa using h2)⟩
theorem qvP (h:Vd u b fr) (hw:wh.length=u.length):∀ (d k:Nat),k+d=u.length→(∀ j,k≤j→j<u.length→whB u b ev wh j=true)→Rl 5 5 186 0 82 6 (plT u k) (wfH u b fr ev wh) (.exit 0) [] []:=by
 intro d
 induction d with
 | zero=>intro k hk _;exact qzI (decide_eq_false (by omega))
 | succ d ih=>intro k hk hg;exact (qhJ h hw (by omega)).1 (hg k (Nat.le_refl _) (by omega)) (ih (k+1) (by omega) fun j a c=>hg j (by omega) c)
theorem qrL (h:Vd u b fr) (hw:wh.length=u.length):∀ (d k:Nat),k+d=u.length→(∃ j,k≤j∧j<u.length∧whB u b ev wh j=false)→Rl 5 5 186 0 82 6 (plT u k) (wfH u b fr ev wh) .ret [(2,.pv (.bool false))] []:=by
 intro d
 induction d with
 | zero=>intro k hk ⟨j,a,c,_⟩;omega
 | succ d ih=>
  intro k hk ⟨j,a,c,e⟩;cases hb:whB u b ev wh k
  ·exact (qhJ h hw (by omega)).2 hb
  ·refine (qhJ h hw (by omega)).1 hb (ih (k+1) (by omega) ⟨j,?_,c,e⟩)
   rcases Nat.lt_or_ge k j with q | q
   ·exact q
   ·have:k=j:=by omega
    subst this;rw[hb] at e;cases e
theorem qeE (h:Vd u b fr) (hw:WhF u b ev wh):Fn 186 5 [agA u b fr ev wh] (agP u b fr ev wh) (.pv (.bool true)) 0 []:=by
 have h1:=h.len;have h2:=hw.len;have h3:=hw.cnt;have h4:=h.count;have h5:=h.le;exact qC0 (z:=(ev.length:Int)) (by simp;omega) (by rw[show (u.length:Int)-(fr.length:Int)=(ev.length:Int) by omega];exact qbe (by omega) (by omega)) (by simp) (qvP h (by omega) u.length 0 (by omega) fun j _ c=>hw.at_ j (by omega))
theorem qpD (h:Vd u b fr) (hw:¬ WhF u b ev wh):Fn 186 5 [agA u b fr ev wh] (agP u b fr ev wh) (.pv (.bool false)) 0 []:=by
 have h1:=h.len;have h4:=h.count;have h5:=h.le
 have hz:iV (IntKind.i64.wrap ((u.length:Int)-(fr.length:Int)))=iV ((b.count true:Nat):Int):=by rw[show (u.length:Int)-(fr.length:Int)=((b.count true:Nat):Int) by omega];exact qbe (by omega) (by omega)
 by_cases g1:wh.length=u.length
 ·have n1:(!((wh.length:Int)==(u.length:Int)))=false:=by simp[g1]
  by_cases g2:ev.length=b.count true
  ·refine qIv n1 hz (by simp[g2]) (qrL h g1 u.length 0 (by omega) ?_);apply Classical.byContradiction;intro hn;refine hw ⟨by omega,fun i hi=>?_,g2.symm⟩
   cases e:whB u b ev wh i with
   | true=>rfl
   | false=>exact (hn ⟨i,by omega,by omega,e⟩).elim
  ·exact qAz n1 hz (by simp;omega)
 ·exact qBH (by simp;omega)
abbrev qIK (m:Ev) (u:List Int) (b:List Bool) (fr:List Int) (ev:List Ev) (wh:List Int):List (Nat×Nat×SV):=[(6,0,.pv (iV m.n)),(6,1,.pv (iV m.d)),(6,2,.pv (iV m.k)),(6,3,.pv (iV m.i)),(6,4,.pv (iV m.w))]++wfH u b fr ev wh
abbrev qI7 (k j:Nat):List (Nat×SV):=[(1,.pp 5 0),(3,.pv (iV (k:Int))),(4,.pp 6 0),(5,.pv (iV (j:Int)))]
abbrev rcT (k:Nat):List (Nat×SV):=[(1,.pp 5 0),(3,.pv (iV (k:Int)))]
theorem qsX {m:Ev} {k:Nat} (hl:ev.length≤1000000) (hk:k≤ev.length) (hn:∀ j y,j<k→ev[j]?=some y→y.k≠m.k):∀ (d j:Nat),j+d=k→Rl 5 5 123 1 76 7 (qI7 k j) (qIK m u b fr ev wh) (.exit 2) (rcT k) (wfH u b fr ev wh):=by
 intro d
 induction d with
 | zero=>intro j hj;exact qq9 (decide_eq_false (by omega))
 | succ d ih=>
  intro j hj;have hx:ev[j]?=some ev[j]:=List.getElem?_eq_getElem (by omega);exact qzT hx (by omega) (decide_eq_true (by omega)) (by simpa using hn j _ (by omega) hx) (qaL (by omega)) (ih (j+1) (by omega))
theorem qpO {m:Ev} {k:Nat} (hl:ev.length≤1000000) (hk:k≤ev.length):∀ (d j:Nat),j+d=k→(∃ q y,j≤q∧q<k∧ev[q]?=some y∧y.k=m.k)→Rl 5 5 123 1 76 7 (qI7 k j) (qIK m u b fr ev wh) .ret [(2,.pv (iV 8))] []:=by
 intro d
 induction d with
 | zero=>intro j hj ⟨q,y,a,c,_⟩;omega
 | succ d ih=>
  intro j hj ⟨q,y,a,c,e1,e2⟩;have hx:ev[j]?=some ev[j]:=List.getElem?_eq_getElem (by omega);by_cases h1:ev[j].k=m.k
  ·exact qsQ hx (by omega) (decide_eq_true (by omega)) (by simpa using h1)
  ·refine qzT hx (by omega) (decide_eq_true (by omega)) (by simpa using h1) (qaL (by omega)) (ih (j+1) (by omega) ⟨q,y,?_,c,e1,e2⟩)
   rcases Nat.lt_or_ge j q with g | g
   ·exact g
   ·have:j=q:=by omega
    subst this;have e3:ev[j]=y:=Option.some.inj (hx.symm.trans e1);exact (h1 (by rw[e3];exact e2)).elim
def rcB (ev:List Ev) (k:Nat):Bool:=match ev[k]? with
 | some x=>evB x&&decide (∀ y∈ev.take k,y.k≠x.k)
 | none=>true
theorem qg5 (s:ASm u b fr ev wh) {k:Nat} (hk:k<ev.length) :
 (rcB ev k=true→∀ {e:Exit} {tm2:TmL} {hp2:HpL},Rl 5 5 123 0 76 6 (rcT (k+1)) (wfH u b fr ev wh) e tm2 hp2→Rl 5 5 123 0 76 6 (rcT k) (wfH u b fr ev wh) e tm2 hp2)∧
 (rcB ev k=false→Rl 5 5 123 0 76 6 (rcT k) (wfH u b fr ev wh) .ret [(2,.pv (iV 8))] []):=by
 have hle:=s.le;obtain⟨m,hm⟩:∃ m,ev[k]?=some m:=⟨_,List.getElem?_eq_getElem hk⟩;have hi:=s.i m (List.mem_of_getElem? hm);have lt:decide ((k:Int)<(ev.length:Int))=true:=decide_eq_true (by omega)
 have hin:0≤(k:Int)∧(k:Int)<(ev.length:Int):=by omega
 have e0:rcB ev k=(evB m&&decide (∀ y∈ev.take k,y.k≠m.k)):=by simp[rcB,hm]
 rw[e0];by_cases h0:okB m.n m.d=true
 ·have hc:=qin hi.1 hi.2 h0;by_cases h1:m.k<0
  ·have e:evB m=false:=by simp only[evB,h0,Bool.true_and];exact decide_eq_false (by omega)
   rw[e,Bool.false_and];exact⟨(fun h=>by cases h),fun _=>qDC hm hin lt hc (decide_eq_true h1)⟩
  ·by_cases h2:m.k>1000000
   ·have e:evB m=false:=by simp only[evB,h0,Bool.true_and];exact decide_eq_false (by omega)
    rw[e,Bool.false_and];exact⟨(fun h=>by cases h),fun _=>qCp hm hin lt hc (decide_eq_false h1) (decide_eq_true h2)⟩
   ·have e:evB m=true:=by simp only[evB,h0,Bool.true_and];exact decide_eq_true (by omega)
    rw[e,Bool.true_and];by_cases h3:∀ y∈ev.take k,y.k≠m.k
    ·rw[decide_eq_true h3];refine⟨fun _ {_ _ _} r=>qy6 hm hin lt hc (decide_eq_false h1) (decide_eq_false h2) (qsX (by omega) (by omega) (fun j y a c=>h3 y (List.mem_of_getElem? (i:=j) (by rw[List.getElem?_take,if_pos a];exact c))) k 0 (by omega)) (qaL (by omega)) r,fun h=>by cases h⟩
    ·rw[decide_eq_false h3];refine⟨(fun h=>by cases h),fun _=>qD1 hm hin lt hc (decide_eq_false h1) (decide_eq_false h2) (qpO (by omega) (by omega) k 0 (by omega) ?_)⟩;simp only[Classical.not_forall] at h3;obtain⟨y,hy,e3⟩:=h3;obtain⟨q,hq⟩:=List.mem_iff_getElem?.1 hy;rw[List.getElem?_take] at hq;split at hq
     ·exact⟨q,y,by omega,by assumption,hq,Classical.not_not.1 e3⟩
     ·cases hq
 ·have e:evB m=false:=by simp[evB,h0]
  rw[e,Bool.false_and];exact⟨(fun h=>by cases h),fun _=>qAX hm hin lt (qgF hi.1 hi.2 h0)⟩
theorem qol (s:ASm u b fr ev wh):∀ (d k:Nat),k+d=ev.length→(∀ j,k≤j→j<ev.length→rcB ev j=true)→Rl 5 5 123 0 76 6 (rcT k) (wfH u b fr ev wh) (.exit 0) [(1,.pp 5 0)] (wfH u b fr ev wh):=by
 intro d
 induction d with
 | zero=>intro k hk _;exact qA0 (decide_eq_false (by omega))
 | succ d ih=>intro k hk hg;exact (qg5 s (by omega)).1 (hg k (Nat.le_refl _) (by omega)) (ih (k+1) (by omega) fun j a c=>hg j (by omega) c)
theorem qro (s:ASm u b fr ev wh):∀ (d k:Nat),k+d=ev.length→(∃ j,k≤j∧j<ev.length∧rcB ev j=false)→Rl 5 5 123 0 76 6 (rcT k) (wfH u b fr ev wh) .ret [(2,.pv (iV 8))] []:=by
 intro d
 induction d with
 | zero=>intro k hk ⟨j,a,c,_⟩;omega
 | succ d ih=>
  intro k hk ⟨j,a,c,e⟩;cases hb:rcB ev k
  ·exact (qg5 s (by omega)).2 hb
  ·refine (qg5 s (by omega)).1 hb (ih (k+1) (by omega) ⟨j,?_,c,e⟩)
   rcases Nat.lt_or_ge k j with q | q
   ·exact q
   ·have:k=j:=by omega
    subst this;rw[hb] at e;cases e
theorem qpP:∀ {l:List Ev},(l.map (·.k)).Nodup↔∀ j x,l[j]?=some x→∀ y∈l.take j,y.k≠x.k:=by
 intro l;rw[List.nodup_iff_pairwise_ne,List.pairwise_map,List.pairwise_iff_getElem];constructor
 ·intro h j x hx y hy e;obtain⟨q,hq⟩:=List.mem_iff_getElem?.1 hy;rw[List.getElem?_take] at hq;split at hq
  ·rename_i hlt;obtain⟨a1,a2⟩:=List.getElem?_eq_some_iff.1 hx;obtain⟨b1,b2⟩:=List.getElem?_eq_some_iff.1 hq;exact h q j b1 a1 hlt (by rw[a2,b2];exact e)
  ·cases hq
 ·intro h i j hi hj hij e;exact h j l[j] (List.getElem?_eq_getElem hj) l[i] (List.mem_of_getElem? (i:=i) (by rw[List.getElem?_take,if_pos hij];exact List.getElem?_eq_getElem hi)) e
theorem qjO (hi:∀ x∈ev,EvI x):EvF ev↔∀ j,j<ev.length→rcB ev j=true:=by
 constructor
 ·intro h j hj;have hx:ev[j]?=some ev[j]:=List.getElem?_eq_getElem hj;simp only[rcB,hx,Bool.and_eq_true,decide_eq_true_eq];exact⟨(qpd (hi _ (List.getElem_mem hj))).2 (h.ok _ (List.getElem_mem hj)),qpP.1 h.nod j _ hx⟩
 ·intro h
  have key:∀ j x,ev[j]?=some x→evB x=true∧∀ y∈ev.take j,y.k≠x.k:=fun j x hx=>by
   have:=h j (List.getElem?_eq_some_iff.1 hx).1;simpa only [rcB,hx,Bool.and_eq_true,decide_eq_true_eq] using this
  refine⟨fun x hx=>?_,qpP.2 fun j x hx=>(key j x hx).2⟩;obtain⟨j,hj⟩:=List.mem_iff_getElem?.1 hx;exact (qpd (hi x hx)).1 (key j x hj).1
abbrev rhT (k:Nat):List (Nat×SV):=[(1,.pp 5 0),(6,.pv (iV (k:Int)))]
theorem qko (s:ASm u b fr ev wh) {k:Nat} (h1:1≤k) (hk:k<ev.length):∃ x y,ev[k]?=some x∧ev[(k-1)/2]?=some y∧Pure Tryz.prog 187 #[qaa x,qaa y] (.bool (ltE x y))∧qbU ev k = !ltE x y∧iV (IntKind.i64.wrap ((k:Int)-1))=iV ((k-1:Nat):Int)∧iV (IntKind.i64.wrap (Int.tdiv ((k-1:Nat):Int) 2))=iV (((k-1)/2:Nat):Int):=by
 have hle:=s.le
 have hj:(k-1)/2<ev.length:=by omega
 refine⟨_,_,List.getElem?_eq_getElem hk,List.getElem?_eq_getElem hj,qaC (s.i _ (List.getElem_mem hk)) (s.i _ (List.getElem_mem hj)),?_,?_,?_⟩
 ·simp[qbU,hk,hj]
 ·rw[show (k:Int)-1=((k-1:Nat):Int) by omega];exact qbe (by omega) (by omega)
 ·have e:Int.tdiv ((k-1:Nat):Int) 2=(((k-1)/2:Nat):Int):=by rw[Int.tdiv_eq_ediv_of_nonneg (by omega)];omega
  rw[e];exact qbe (by omega) (by omega)
theorem quW (s:ASm u b fr ev wh):∀ (d k:Nat),ev.length≤k+d→1≤k→(∀ j,k≤j→j<ev.length→qbU ev j=true)→Rl 5 5 123 2 76 6 (rhT k) (wfH u b fr ev wh) (.exit 4) [] []:=by
 have hle:=s.le;intro d
 induction d with
 | zero=>intro k hd h1 hg;exact qt5 (decide_eq_false (by omega))
 | succ d ih=>
  intro k hd h1 hg;by_cases hk:k<ev.length
  ·obtain⟨x,y,hx,hy,hc,e,e1,e2⟩:=qko s h1 hk;rw[hg k (Nat.le_refl _) hk] at e
   have e':ltE x y=false:=by simpa using e.symm
   rw[e'] at hc;exact qnO hx (by omega) hy (by omega) (decide_eq_true (by omega)) e1 (by decide) e2 hc (qaL (by omega)) (ih (k+1) (by omega) (by omega) (fun j a c=>hg j (by omega) c))
  ·exact qt5 (decide_eq_false (by omega))
theorem qs8 (s:ASm u b fr ev wh):∀ (d k:Nat),ev.length≤k+d→1≤k→(∃ j,k≤j∧j<ev.length∧qbU ev j=false)→Rl 5 5 123 2 76 6 (rhT k) (wfH u b fr ev wh) .ret [(2,.pv (iV 8))] []:=by
 have hle:=s.le;intro d
 induction d with
 | zero=>intro k hd h1 ⟨j,a,c,_⟩;omega
 | succ d ih=>
  intro k hd h1 ⟨j,a,c,hj⟩;obtain⟨x,y,hx,hy,hc,e,e1,e2⟩:=qko s h1 (show k<ev.length by omega)
  cases e':ltE x y<;>rw[e'] at hc e
  ·refine qnO hx (by omega) hy (by omega) (decide_eq_true (by omega)) e1 (by decide) e2 hc (qaL (by omega)) (ih (k+1) (by omega) (by omega) ⟨j,?_,c,hj⟩)
   rcases Nat.lt_or_ge k j with q | q
   ·exact q
   ·have:k=j:=by omega
    subst this;rw[hj] at e;cases e
  ·exact qA2 hx (by omega) hy (by omega) (decide_eq_true (by omega)) e1 (by decide) e2 hc
theorem qeB (h:VA u b fr ev wh):Fn 123 5 [agA u b fr ev wh] (agP u b fr ev wh) (.pv (iV 0)) 0 []:=
 qAn (qde h.vd) (qeE h.vd h.wf) (qol h.sm ev.length 0 (by omega) fun j _ c=>(qjO h.sm.i).1 h.ef j c) (quW h.sm ev.length 1 (by omega) (by omega) fun j a c=>h.hp j a c)
theorem qju (s:ASm u b fr ev wh) (h:¬ VA u b fr ev wh):Fn 123 5 [agA u b fr ev wh] (agP u b fr ev wh) (.pv (iV 8)) 0 []:=by
 by_cases h1:Vd u b fr
 ·by_cases h2:WhF u b ev wh
  ·by_cases h3:EvF ev
   ·refine qA3 (qde h1) (qeE h1 h2) (qol s ev.length 0 (by omega) fun j _ c=>(qjO s.i).1 h3 j c) (qs8 s ev.length 1 (by omega) (by omega) ?_);apply Classical.byContradiction;intro hn
    exact h ⟨h1,h2,h3,fun k b1 b2=>by
     cases e:qbU ev k with
     | true=>rfl
     | false=>exact (hn ⟨k,b1,b2,e⟩).elim⟩
   ·refine qAT (qde h1) (qeE h1 h2) (qro s ev.length 0 (by omega) ?_);apply Classical.byContradiction;intro hn
    exact h3 ((qjO s.i).2 fun j hj=>by
     cases e:rcB ev j with
     | true=>rfl
     | false=>exact (hn ⟨j,by omega,hj,e⟩).elim)
  ·exact qDy (qde h1) (qpD h1 h2)
 ·exact qxD (qjT (by have:=s.lf;omega) h1)
end
end Go.Proofs.YtkckcgpmnipnaaaGreat
