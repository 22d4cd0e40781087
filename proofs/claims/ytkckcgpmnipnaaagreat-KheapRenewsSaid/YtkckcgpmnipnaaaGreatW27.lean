/-
  Joined: Yg, Yh, Yj, Yk, Yl. Conditions: none.
-/
import Derived.Test.YtkckcgpmnipnaaaGreatW26
import Derived.Test.YtkckcgpmnipnaaaGreatW16
namespace Go.Proofs.YtkckcgpmnipnaaaGreat
set_option maxRecDepth 100000
open Go.RowKit
variable {u fr wh u2 f2 wh3 wh4:List Int} {b b2:List Bool} {ev ev3 ev4:List Ev} {x y:Ev} {k la j n mm l p:Nat}
abbrev qFO (wh:List Int):Prop:=Fn 63 1 [.ls 0 wh.length] [(0,0,zrI wh)] (.ls 1 wh.length) 1 [(1,0,zrI wh)]
abbrev qDA (b:List Bool) (ev:List Ev) (fr:List Int) (u:List Int) (wh:List Int):HpL:=[(0,0,zrI u),(1,0,zrB b),(2,0,zrI fr),(3,0,qap ev),(4,0,zrI wh)]
abbrev qCN (b:List Bool) (b2:List Bool) (f2:List Int) (fr:List Int) (u:List Int) (u2:List Int) (x:Ev):Prop:=Fn 327 3 [.ag [.ls 0 u.length,.ls 1 b.length,.ls 2 fr.length],.pv (qaK x.i x.w)] [(0,0,zrI u),(1,0,zrB b),(2,0,zrI fr)] (.tu [.ag [.ls 3 u2.length,.ls 4 b2.length,.ls 5 f2.length],.one (.pv (iV 0))]) 3 [(3,0,zrI u2),(4,0,zrB b2),(5,0,zrI f2)]
theorem qyS (hik:Bd k ev.length) (hx:ev[k]?=some x) (hla:iV (IntKind.i64.wrap ((ev.length:Int)-1))=iV (la:Int)) (hg:qCN b b2 f2 fr u u2 x) (hll:la≤ev.length) (hce:Fn 143 1 [.lq 0 5 0 la] [(0,0,qap ev)] (.ls 1 la) 1 [(1,0,.row 61 5 la (qau (ev.take la)))]) (hcw:qFO wh) (hwi:0≤x.i∧x.i<(wh.length:Int)) (hwset:x.i.toNat<wh.length) (hlt:Df ((k:Int)<(la:Int))) :
 Fn 301 5 [agA u b fr ev wh,.pv (iV (k:Int))] (qDA b ev fr u wh) (.ag [.ls 5 u2.length,.ls 6 b2.length,.ls 7 f2.length,.ls 8 la,.ls 9 wh.length]) 5 [(5,0,zrI u2),(6,0,zrB b2),(7,0,zrI f2),(8,0,.row 61 5 la (qau (ev.take la))),(9,0,.row 3 1 wh.length (ziV (wh.set x.i.toNat (-1))))]:=
 Fz [(5,8),(6,9),(7,10),(8,12),(9,13)] [.md,.r (qaK x.i x.w),Re hla,Cf hg [0,1,2],.md,.k,Cf hce [3],Cf hcw [4],.w (ziV (wh.set x.i.toNat (-1))),.t false]
  (qaG (qaM [(5,8),(6,9),(7,10),(8,12),(9,13)]) [(5,0,zrI u2),(6,0,zrB b2),(7,0,zrI f2),(8,0,.row 61 5 la (qau (ev.take la))),(9,0,.row 3 1 wh.length (ziV (wh.set x.i.toNat (-1))))]) (A3 hik (qzy hx) hla (Co hg [0,1,2] 8 (A4 tI (Int.natCast_nonneg la) (Nat.zero_le la) hll (Co hce [3] 12 (Co hcw [4] 13 (A4 hwi (qcB wh x.i.toNat (-1) hwset) (qaQ wh x.i.toNat hwset) hlt tI))))))
abbrev qGR (b2:List Bool) (ev:List Ev) (f2:List Int) (mm:Nat) (n:Nat) (u2:List Int) (wh:List Int):HpL:=[(18,0,.ls 8 u2.length),(18,1,.ls 9 b2.length),(18,2,.ls 10 f2.length),(18,3,.ls 12 n),(18,4,.ls 13 mm),(14,0,.ls 8 u2.length),(14,1,.ls 9 b2.length),(14,2,.ls 10 f2.length),(14,3,.ls 12 n),(14,4,.ls 13 mm),(6,0,.pv (.slice none 0 0)),(6,1,.pv (.slice none 0 0)),(6,2,.pv (.slice none 0 0)),(6,3,.pv (.slice none 0 0)),(6,4,.pv (.slice none 0 0)),(17,0,.ls 8 u2.length),(17,1,.ls 9 b2.length),(17,2,.ls 10 f2.length),(17,3,.ls 12 n),(17,4,.ls 13 mm),(8,0,zrI u2),(9,0,zrB b2),(10,0,zrI f2),(12,0,.row 61 5 n (qau (ev))),(13,0,.row 3 1 mm (ziV (wh)))]
abbrev qsz (j:Nat) (k:Nat):Prop:=Pure Tryz.prog 283 #[iV (k:Int)] (iV (j:Int))
abbrev qsZ (k:Nat):TmL:=[(1,.pv (iV (k:Int))),(2,.pp 18 0)]
theorem qlL (hin_x:0≤(k:Int)∧(k:Int)<(n:Int)) (he_x:ev[k]?=some x) (hin_y:0≤(j:Int)∧(j:Int)<(n:Int)) (he_y:ev[j]?=some y) (h0:decide ((k:Int)>0)=true) (hp:qsz j k) (hl:Pure Tryz.prog 282 #[qaa x,qaa y] (.bool true)) (hla:k<(ev).length) (hwb:0≤y.i∧y.i<(mm:Int)) (hwbl:y.i.toNat<(wh).length) (hlb:j<((ev).set k y).length) (hwa:0≤x.i∧x.i<(mm:Int)) (hwal:x.i.toNat<((wh).set y.i.toNat (k:Int)).length) {e:Exit} {tm2:TmL} {hp2:HpL}
 (r:Rl 5 18 334 0 29 19 ([(1,.pv (iV (j:Int))),(2,.pp 18 0)]) ([(18,0,.ls 8 u2.length),(18,1,.ls 9 b2.length),(18,2,.ls 10 f2.length),(18,3,.ls 12 n),(18,4,.ls 13 mm),(14,0,.ls 8 u2.length),(14,1,.ls 9 b2.length),(14,2,.ls 10 f2.length),(14,3,.ls 12 n),(14,4,.ls 13 mm),(6,0,.pv (.slice none 0 0)),(6,1,.pv (.slice none 0 0)),(6,2,.pv (.slice none 0 0)),(6,3,.pv (.slice none 0 0)),(6,4,.pv (.slice none 0 0)),(17,0,.ls 8 u2.length),(17,1,.ls 9 b2.length),(17,2,.ls 10 f2.length),(17,3,.ls 12 n),(17,4,.ls 13 mm),(8,0,zrI u2),(9,0,zrB b2),(10,0,zrI f2),(12,0,.row 61 5 n (qau (((ev).set k y).set j x))),(13,0,.row 3 1 mm (ziV (((wh).set y.i.toNat (k:Int)).set x.i.toNat (j:Int))))]) e tm2 hp2):Rl 5 18 334 0 29 19 (qsZ k) (qGR b2 ev f2 mm n u2 wh) e tm2 hp2:=
 RunsL.next [] 300 [.t true,.r (qaa x),Rf hp,.r (qaa y),Rf hl,Rf hp,.k,.r (qaa x),.r (qaa y),.k,.w (qau ((ev).set k y)),.w (ziV ((wh).set y.i.toNat (k:Int))),.k,.w (qau (((ev).set k y).set j x)),.w (ziV (((wh).set y.i.toNat (k:Int)).set x.i.toNat (j:Int))),Rf hp]
  (Ro (A9 h0 hin_x (qaF he_x) hp hin_y (qaF he_y) hl hp hin_x (A9 (qaF he_x) hin_y (qaF he_y) hin_x (qdk (ev) k y hla) (qbl (ev) k hla) hwb (qcB (wh) y.i.toNat (k:Int) hwbl) (qaQ (wh) y.i.toNat hwbl) (A7 hin_y (qdk ((ev).set k y) j x hlb) (qbl ((ev).set k y) j hlb) hwa (qcB ((wh).set y.i.toNat (k:Int)) x.i.toNat (j:Int) hwal) (qaQ ((wh).set y.i.toNat (k:Int)) x.i.toNat hwal) hp tI)))) r
abbrev qIz (b2:List Bool) (ev:List Ev) (f2:List Int) (mm:Nat) (n:Nat) (u2:List Int) (wh:List Int):HpL:=[(14,0,.ls 8 u2.length),(14,1,.ls 9 b2.length),(14,2,.ls 10 f2.length),(14,3,.ls 12 n),(14,4,.ls 13 mm),(6,0,.pv (.slice none 0 0)),(6,1,.pv (.slice none 0 0)),(6,2,.pv (.slice none 0 0)),(6,3,.pv (.slice none 0 0)),(6,4,.pv (.slice none 0 0)),(17,0,.ls 8 u2.length),(17,1,.ls 9 b2.length),(17,2,.ls 10 f2.length),(17,3,.ls 12 n),(17,4,.ls 13 mm),(8,0,zrI u2),(9,0,zrB b2),(10,0,zrI f2),(12,0,.row 61 5 n (qau (ev))),(13,0,.row 3 1 mm (ziV (wh)))]
theorem qmy (hin_x:Bd k n) (he_x:ev[k]?=some x) (hin_y:Bd j n) (he_y:ev[j]?=some y) (h0:Dt ((k:Int)>0)) (hp:qsz j k) (hl:yc x y):Rl 5 18 334 0 29 19 (qsZ k) (qGR b2 ev f2 mm n u2 wh) (.exit 0) ([(1,.pv (iV (k:Int)))]) (qIz b2 ev f2 mm n u2 wh):=
 RunsL.stop [] 300 [.t true,.r (qaa x),Rf hp,.r (qaa y),Rf hl] (fun h=>by cases h)
  (Ro (A7 h0 hin_x (qaF he_x) hp hin_y (qaF he_y) hl tI))
theorem qm7 (h0:decide ((k:Int)>0)=false):Rl 5 18 334 0 29 19 (qsZ k) (qGR b2 ev f2 mm n u2 wh) (.exit 0) ([(1,.pv (iV (k:Int)))]) (qIz b2 ev f2 mm n u2 wh):=
 RunsL.stop [] 300 [.t false] (fun h=>by cases h)
  (Ro (Ai h0 tI))
abbrev qIJ (b2:List Bool) (ev:List Ev) (f2:List Int) (mm:Nat) (n:Nat) (u2:List Int) (wh:List Int):HpL:=[(19,0,.ls 8 u2.length),(19,1,.ls 9 b2.length),(19,2,.ls 10 f2.length),(19,3,.ls 12 n),(19,4,.ls 13 mm),(14,0,.ls 8 u2.length),(14,1,.ls 9 b2.length),(14,2,.ls 10 f2.length),(14,3,.ls 12 n),(14,4,.ls 13 mm),(6,0,.pv (.slice none 0 0)),(6,1,.pv (.slice none 0 0)),(6,2,.pv (.slice none 0 0)),(6,3,.pv (.slice none 0 0)),(6,4,.pv (.slice none 0 0)),(17,0,.ls 8 u2.length),(17,1,.ls 9 b2.length),(17,2,.ls 10 f2.length),(17,3,.ls 12 n),(17,4,.ls 13 mm),(8,0,zrI u2),(9,0,zrB b2),(10,0,zrI f2),(12,0,.row 61 5 n (qau (ev))),(13,0,.row 3 1 mm (ziV (wh)))]
abbrev qEH (ev:List Ev) (k:Nat) (l:Nat) (n:Nat):Prop:=Fn 344 1 [.ls 0 n,.pv (iV (k:Int))] [(0,0,.row 61 5 n (qau (ev)))] (.pv (iV (l:Int))) 0 []
theorem qmo (hle:qEH ev k l n) (hq:((l:Int)==(k:Int))=false) (hin_x:0≤(k:Int)∧(k:Int)<(n:Int)) (he_x:ev[k]?=some x) (hin_y:0≤(l:Int)∧(l:Int)<(n:Int)) (he_y:ev[l]?=some y) (hla:k<(ev).length) (hwb:0≤y.i∧y.i<(mm:Int)) (hwbl:y.i.toNat<(wh).length) (hlb:l<((ev).set k y).length) (hwa:0≤x.i∧x.i<(mm:Int)) (hwal:x.i.toNat<((wh).set y.i.toNat (k:Int)).length) {e:Exit} {tm2:TmL} {hp2:HpL}
 (r:Rl 5 19 333 0 17 20 ([(1,.pv (iV (l:Int))),(2,.pp 19 0)]) ([(19,0,.ls 8 u2.length),(19,1,.ls 9 b2.length),(19,2,.ls 10 f2.length),(19,3,.ls 12 n),(19,4,.ls 13 mm),(14,0,.ls 8 u2.length),(14,1,.ls 9 b2.length),(14,2,.ls 10 f2.length),(14,3,.ls 12 n),(14,4,.ls 13 mm),(6,0,.pv (.slice none 0 0)),(6,1,.pv (.slice none 0 0)),(6,2,.pv (.slice none 0 0)),(6,3,.pv (.slice none 0 0)),(6,4,.pv (.slice none 0 0)),(17,0,.ls 8 u2.length),(17,1,.ls 9 b2.length),(17,2,.ls 10 f2.length),(17,3,.ls 12 n),(17,4,.ls 13 mm),(8,0,zrI u2),(9,0,zrB b2),(10,0,zrI f2),(12,0,.row 61 5 n (qau (((ev).set k y).set l x))),(13,0,.row 3 1 mm (ziV (((wh).set y.i.toNat (k:Int)).set x.i.toNat (l:Int))))]) e tm2 hp2):Rl 5 19 333 0 17 20 ([(1,.pv (iV (k:Int))),(2,.pp 19 0)]) (qIJ b2 ev f2 mm n u2 wh) e tm2 hp2:=
 RunsL.next [] 300 [Cf hle [12],.t false,.k,.r (qaa x),.r (qaa y),.k,.w (qau ((ev).set k y)),.w (ziV ((wh).set y.i.toNat (k:Int))),.k,.w (qau (((ev).set k y).set l x)),.w (ziV (((wh).set y.i.toNat (k:Int)).set x.i.toNat (l:Int)))]
  (Ro (Co hle [12] 20 (A9 hq hin_x (qaF he_x) hin_y (qaF he_y) hin_x (qdk (ev) k y hla) (qbl (ev) k hla) hwb (A8 (qcB (wh) y.i.toNat (k:Int) hwbl) (qaQ (wh) y.i.toNat hwbl) hin_y (qdk ((ev).set k y) l x hlb) (qbl ((ev).set k y) l hlb) hwa (qcB ((wh).set y.i.toNat (k:Int)) x.i.toNat (l:Int) hwal) (qaQ ((wh).set y.i.toNat (k:Int)) x.i.toNat hwal) tI)))) r
theorem qmc (hle:qEH ev k l n) (hq:((l:Int)==(k:Int))=true):Rl 5 19 333 0 17 20 ([(1,.pv (iV (k:Int))),(2,.pp 19 0)]) (qIJ b2 ev f2 mm n u2 wh) (.ret) ([]) (qIz b2 ev f2 mm n u2 wh):=
 RunsL.stop [] 300 [Cf hle [12],.t true] (fun h=>by cases h)
  (Ro (Co hle [12] 20 (Ai hq tI)))
theorem qAq {xl:Ev} (hik:0≤(k:Int)∧(k:Int)<(ev.length:Int)) (hx:ev[k]?=some x) (hla:iV (IntKind.i64.wrap ((ev.length:Int)-1))=iV (la:Int)) (hg:qCN b b2 f2 fr u u2 x) (hll:la≤ev.length) (hce:Fn 143 1 [.lq 0 5 0 la] [(0,0,qap ev)] (.ls 1 la) 1 [(1,0,.row 61 5 la (qau (ev.take la)))]) (hcw:qFO wh) (hwi:0≤x.i∧x.i<(wh.length:Int)) (hwset:x.i.toNat<wh.length) (hlt:decide ((k:Int)<(la:Int))=true) (hil:0≤(la:Int)∧(la:Int)<(ev.length:Int)) (hxl:ev[la]?=some xl) (hkl:0≤(k:Int)∧(k:Int)<(la:Int)) (hset:k<(ev.take la).length) (hwl:0≤xl.i∧xl.i<(wh.length:Int)) (hwls:xl.i.toNat<(wh.set x.i.toNat (-1)).length) (r0:Rl 5 18 334 0 29 19 (qsZ k) ([(18,0,.ls 8 u2.length),(18,1,.ls 9 b2.length),(18,2,.ls 10 f2.length),(18,3,.ls 12 la),(18,4,.ls 13 wh.length),(14,0,.ls 8 u2.length),(14,1,.ls 9 b2.length),(14,2,.ls 10 f2.length),(14,3,.ls 12 la),(14,4,.ls 13 wh.length),(6,0,.pv (.slice none 0 0)),(6,1,.pv (.slice none 0 0)),(6,2,.pv (.slice none 0 0)),(6,3,.pv (.slice none 0 0)),(6,4,.pv (.slice none 0 0)),(17,0,.ls 8 u2.length),(17,1,.ls 9 b2.length),(17,2,.ls 10 f2.length),(17,3,.ls 12 la),(17,4,.ls 13 wh.length),(8,0,zrI u2),(9,0,zrB b2),(10,0,zrI f2),(12,0,.row 61 5 la (qau ((ev.take la).set k xl))),(13,0,.row 3 1 wh.length (ziV ((wh.set x.i.toNat (-1)).set xl.i.toNat (k:Int))))]) (.exit 0) ([(1,.pv (iV (p:Int)))]) ([(14,0,.ls 8 u2.length),(14,1,.ls 9 b2.length),(14,2,.ls 10 f2.length),(14,3,.ls 12 la),(14,4,.ls 13 wh.length),(6,0,.pv (.slice none 0 0)),(6,1,.pv (.slice none 0 0)),(6,2,.pv (.slice none 0 0)),(6,3,.pv (.slice none 0 0)),(6,4,.pv (.slice none 0 0)),(17,0,.ls 8 u2.length),(17,1,.ls 9 b2.length),(17,2,.ls 10 f2.length),(17,3,.ls 12 la),(17,4,.ls 13 wh.length),(8,0,zrI u2),(9,0,zrB b2),(10,0,zrI f2),(12,0,.row 61 5 la (qau (ev3))),(13,0,.row 3 1 wh.length (ziV (wh3)))])) (r1:Rl 5 19 333 0 17 20 ([(1,.pv (iV (p:Int))),(2,.pp 19 0)]) ([(19,0,.ls 8 u2.length),(19,1,.ls 9 b2.length),(19,2,.ls 10 f2.length),(19,3,.ls 12 la),(19,4,.ls 13 wh.length),(14,0,.ls 8 u2.length),(14,1,.ls 9 b2.length),(14,2,.ls 10 f2.length),(14,3,.ls 12 la),(14,4,.ls 13 wh.length),(6,0,.pv (.slice none 0 0)),(6,1,.pv (.slice none 0 0)),(6,2,.pv (.slice none 0 0)),(6,3,.pv (.slice none 0 0)),(6,4,.pv (.slice none 0 0)),(17,0,.ls 8 u2.length),(17,1,.ls 9 b2.length),(17,2,.ls 10 f2.length),(17,3,.ls 12 la),(17,4,.ls 13 wh.length),(8,0,zrI u2),(9,0,zrB b2),(10,0,zrI f2),(12,0,.row 61 5 la (qau (ev3))),(13,0,.row 3 1 wh.length (ziV (wh3)))]) (.ret) ([]) ([(14,0,.ls 8 u2.length),(14,1,.ls 9 b2.length),(14,2,.ls 10 f2.length),(14,3,.ls 12 la),(14,4,.ls 13 wh.length),(6,0,.pv (.slice none 0 0)),(6,1,.pv (.slice none 0 0)),(6,2,.pv (.slice none 0 0)),(6,3,.pv (.slice none 0 0)),(6,4,.pv (.slice none 0 0)),(17,0,.ls 8 u2.length),(17,1,.ls 9 b2.length),(17,2,.ls 10 f2.length),(17,3,.ls 12 la),(17,4,.ls 13 wh.length),(8,0,zrI u2),(9,0,zrB b2),(10,0,zrI f2),(12,0,.row 61 5 la (qau (ev4))),(13,0,.row 3 1 wh.length (ziV (wh4)))])) :
 Fn 301 5 [agA u b fr ev wh,.pv (iV (k:Int))] (qDA b ev fr u wh) (.ag [.ls 5 u2.length,.ls 6 b2.length,.ls 7 f2.length,.ls 8 la,.ls 9 wh.length]) 5 [(5,0,zrI u2),(6,0,zrB b2),(7,0,zrI f2),(8,0,.row 61 5 la (qau (ev4))),(9,0,.row 3 1 wh.length (ziV (wh4)))]:=
 Fz [(5,8),(6,9),(7,10),(8,12),(9,13)] [.md,.r (qaK x.i x.w),Re hla,Cf hg [0,1,2],.md,.k,Cf hce [3],Cf hcw [4],.w (ziV (wh.set x.i.toNat (-1))),.t true,.r (qaa xl),.k,.w (qau ((ev.take la).set k xl)),.w (ziV ((wh.set x.i.toNat (-1)).set xl.i.toNat (k:Int))),.k,.gh [(17,0),(17,1),(17,2),(17,3),(17,4)],.k,Lf r0,.k,Lf r1]
  (qaG (qaM [(5,8),(6,9),(7,10),(8,12),(9,13)]) [(5,0,zrI u2),(6,0,zrB b2),(7,0,zrI f2),(8,0,.row 61 5 la (qau (ev4))),(9,0,.row 3 1 wh.length (ziV (wh4)))]) (A3 hik (qzy hx) hla (Co hg [0,1,2] 8 (A4 tI (Int.natCast_nonneg la) (Nat.zero_le la) hll (Co hce [3] 12 (Co hcw [4] 13 (A9 hwi (qcB wh x.i.toNat (-1) hwset) (qaQ wh x.i.toNat hwset) hlt hil (qaF hxl) hkl (qdk (ev.take la) k xl hset) (qbl (ev.take la) k hset) (A8 hwl (qcB (wh.set x.i.toNat (-1)) xl.i.toNat (k:Int) hwls) (qaQ (wh.set x.i.toNat (-1)) xl.i.toNat hwls) (El 8 u2.length) (El 9 b2.length) (El 10 f2.length) (El 12 la) (El 13 wh.length) (Lo r0 [] (A5 (El 8 u2.length) (El 9 b2.length) (El 10 f2.length) (El 12 la) (El 13 wh.length) (Lo r1 [] (A5 (El 8 u2.length) (El 9 b2.length) (El 10 f2.length) (El 12 la) (El 13 wh.length) tI)))))))))))
theorem qtJ (c0:yp u) (c1:Fn 140 1 [.ls 0 b.length] [(0,0,zrB b)] (.ls 1 b.length) 1 [(1,0,zrB b)]) (c2:yp fr) (c3:Fn 143 1 [.ls 0 ev.length] [(0,0,qap ev)] (.ls 1 ev.length) 1 [(1,0,qap ev)]) (c4:qFO wh) :
 Fn 312 5 [agA u b fr ev wh] (qDA b ev fr u wh) (.ag [.ls 5 u.length,.ls 6 b.length,.ls 7 fr.length,.ls 8 ev.length,.ls 9 wh.length]) 5 (yd u b fr ev wh):=
 Fz [(5,7),(6,8),(7,9),(8,11),(9,12)] [.md,Cf c0 [0],Cf c1 [1],Cf c2 [2],.md,Cf c3 [3],Cf c4 [4]]
  (qaG (qaM [(5,7),(6,8),(7,9),(8,11),(9,12)]) [(5,0,zrI u),(6,0,zrB b),(7,0,zrI fr),(8,0,qap ev),(9,0,zrI wh)]) (Co c0 [0] 7 (Co c1 [1] 8 (Co c2 [2] 9 (Co c3 [3] 11 (Co c4 [4] 12 tI)))))
abbrev qHc (b:List Bool) (ev:List Ev) (fr:List Int) (mm:Nat) (n:Nat) (u:List Int) (wh:List Int):HpL:=[(15,0,.ls 8 u.length),(15,1,.ls 9 b.length),(15,2,.ls 10 fr.length),(15,3,.ls 11 n),(15,4,.ls 12 mm),(13,0,.ls 8 u.length),(13,1,.ls 9 b.length),(13,2,.ls 10 fr.length),(13,3,.ls 11 n),(13,4,.ls 12 mm),(7,0,.pv (.slice none 0 0)),(7,1,.pv (.slice none 0 0)),(7,2,.pv (.slice none 0 0)),(7,3,.pv (.slice none 0 0)),(7,4,.pv (.slice none 0 0)),(14,0,.ls 8 u.length),(14,1,.ls 9 b.length),(14,2,.ls 10 fr.length),(14,3,.ls 11 n),(14,4,.ls 12 mm),(8,0,zrI u),(9,0,zrB b),(10,0,zrI fr),(11,0,.row 61 5 n (qau (ev))),(12,0,.row 3 1 mm (ziV (wh)))]
abbrev qtr (k:Nat):TmL:=[(1,.pv (iV (k:Int))),(2,.pp 15 0)]
theorem qm8 (hin_x:0≤(k:Int)∧(k:Int)<(n:Int)) (he_x:ev[k]?=some x) (hin_y:0≤(j:Int)∧(j:Int)<(n:Int)) (he_y:ev[j]?=some y) (h0:decide ((k:Int)>0)=true) (hp:qsz j k) (hl:Pure Tryz.prog 282 #[qaa x,qaa y] (.bool true)) (hla:k<(ev).length) (hwb:0≤y.i∧y.i<(mm:Int)) (hwbl:y.i.toNat<(wh).length) (hlb:j<((ev).set k y).length) (hwa:0≤x.i∧x.i<(mm:Int)) (hwal:x.i.toNat<((wh).set y.i.toNat (k:Int)).length) {e:Exit} {tm2:TmL} {hp2:HpL}
 (r:Rl 5 15 334 0 29 16 ([(1,.pv (iV (j:Int))),(2,.pp 15 0)]) ([(15,0,.ls 8 u.length),(15,1,.ls 9 b.length),(15,2,.ls 10 fr.length),(15,3,.ls 11 n),(15,4,.ls 12 mm),(13,0,.ls 8 u.length),(13,1,.ls 9 b.length),(13,2,.ls 10 fr.length),(13,3,.ls 11 n),(13,4,.ls 12 mm),(7,0,.pv (.slice none 0 0)),(7,1,.pv (.slice none 0 0)),(7,2,.pv (.slice none 0 0)),(7,3,.pv (.slice none 0 0)),(7,4,.pv (.slice none 0 0)),(14,0,.ls 8 u.length),(14,1,.ls 9 b.length),(14,2,.ls 10 fr.length),(14,3,.ls 11 n),(14,4,.ls 12 mm),(8,0,zrI u),(9,0,zrB b),(10,0,zrI fr),(11,0,.row 61 5 n (qau (((ev).set k y).set j x))),(12,0,.row 3 1 mm (ziV (((wh).set y.i.toNat (k:Int)).set x.i.toNat (j:Int))))]) e tm2 hp2):Rl 5 15 334 0 29 16 (qtr k) (qHc b ev fr mm n u wh) e tm2 hp2:=
 RunsL.next [] 300 [.t true,.r (qaa x),Rf hp,.r (qaa y),Rf hl,Rf hp,.k,.r (qaa x),.r (qaa y),.k,.w (qau ((ev).set k y)),.w (ziV ((wh).set y.i.toNat (k:Int))),.k,.w (qau (((ev).set k y).set j x)),.w (ziV (((wh).set y.i.toNat (k:Int)).set x.i.toNat (j:Int))),Rf hp]
  (Ro (A9 h0 hin_x (qaF he_x) hp hin_y (qaF he_y) hl hp hin_x (A9 (qaF he_x) hin_y (qaF he_y) hin_x (qdk (ev) k y hla) (qbl (ev) k hla) hwb (qcB (wh) y.i.toNat (k:Int) hwbl) (qaQ (wh) y.i.toNat hwbl) (A7 hin_y (qdk ((ev).set k y) j x hlb) (qbl ((ev).set k y) j hlb) hwa (qcB ((wh).set y.i.toNat (k:Int)) x.i.toNat (j:Int) hwal) (qaQ ((wh).set y.i.toNat (k:Int)) x.i.toNat hwal) hp tI)))) r
abbrev qIf (b:List Bool) (ev:List Ev) (fr:List Int) (mm:Nat) (n:Nat) (u:List Int) (wh:List Int):HpL:=[(13,0,.ls 8 u.length),(13,1,.ls 9 b.length),(13,2,.ls 10 fr.length),(13,3,.ls 11 n),(13,4,.ls 12 mm),(7,0,.pv (.slice none 0 0)),(7,1,.pv (.slice none 0 0)),(7,2,.pv (.slice none 0 0)),(7,3,.pv (.slice none 0 0)),(7,4,.pv (.slice none 0 0)),(14,0,.ls 8 u.length),(14,1,.ls 9 b.length),(14,2,.ls 10 fr.length),(14,3,.ls 11 n),(14,4,.ls 12 mm),(8,0,zrI u),(9,0,zrB b),(10,0,zrI fr),(11,0,.row 61 5 n (qau (ev))),(12,0,.row 3 1 mm (ziV (wh)))]
theorem qmN (hin_x:Bd k n) (he_x:ev[k]?=some x) (hin_y:Bd j n) (he_y:ev[j]?=some y) (h0:Dt ((k:Int)>0)) (hp:qsz j k) (hl:yc x y):Rl 5 15 334 0 29 16 (qtr k) (qHc b ev fr mm n u wh) (.exit 0) ([(1,.pv (iV (k:Int)))]) (qIf b ev fr mm n u wh):=
 RunsL.stop [] 300 [.t true,.r (qaa x),Rf hp,.r (qaa y),Rf hl] (fun h=>by cases h)
  (Ro (A7 h0 hin_x (qaF he_x) hp hin_y (qaF he_y) hl tI))
theorem qmK (h0:decide ((k:Int)>0)=false):Rl 5 15 334 0 29 16 (qtr k) (qHc b ev fr mm n u wh) (.exit 0) ([(1,.pv (iV (k:Int)))]) (qIf b ev fr mm n u wh):=
 RunsL.stop [] 300 [.t false] (fun h=>by cases h)
  (Ro (Ai h0 tI))
abbrev qI9 (b:List Bool) (ev:List Ev) (fr:List Int) (mm:Nat) (n:Nat) (u:List Int) (wh:List Int):HpL:=[(16,0,.ls 8 u.length),(16,1,.ls 9 b.length),(16,2,.ls 10 fr.length),(16,3,.ls 11 n),(16,4,.ls 12 mm),(13,0,.ls 8 u.length),(13,1,.ls 9 b.length),(13,2,.ls 10 fr.length),(13,3,.ls 11 n),(13,4,.ls 12 mm),(7,0,.pv (.slice none 0 0)),(7,1,.pv (.slice none 0 0)),(7,2,.pv (.slice none 0 0)),(7,3,.pv (.slice none 0 0)),(7,4,.pv (.slice none 0 0)),(14,0,.ls 8 u.length),(14,1,.ls 9 b.length),(14,2,.ls 10 fr.length),(14,3,.ls 11 n),(14,4,.ls 12 mm),(8,0,zrI u),(9,0,zrB b),(10,0,zrI fr),(11,0,.row 61 5 n (qau (ev))),(12,0,.row 3 1 mm (ziV (wh)))]
theorem qlC (hle:qEH ev k l n) (hq:((l:Int)==(k:Int))=false) (hin_x:0≤(k:Int)∧(k:Int)<(n:Int)) (he_x:ev[k]?=some x) (hin_y:0≤(l:Int)∧(l:Int)<(n:Int)) (he_y:ev[l]?=some y) (hla:k<(ev).length) (hwb:0≤y.i∧y.i<(mm:Int)) (hwbl:y.i.toNat<(wh).length) (hlb:l<((ev).set k y).length) (hwa:0≤x.i∧x.i<(mm:Int)) (hwal:x.i.toNat<((wh).set y.i.toNat (k:Int)).length) {e:Exit} {tm2:TmL} {hp2:HpL}
 (r:Rl 5 16 333 0 17 17 ([(1,.pv (iV (l:Int))),(2,.pp 16 0)]) ([(16,0,.ls 8 u.length),(16,1,.ls 9 b.length),(16,2,.ls 10 fr.length),(16,3,.ls 11 n),(16,4,.ls 12 mm),(13,0,.ls 8 u.length),(13,1,.ls 9 b.length),(13,2,.ls 10 fr.length),(13,3,.ls 11 n),(13,4,.ls 12 mm),(7,0,.pv (.slice none 0 0)),(7,1,.pv (.slice none 0 0)),(7,2,.pv (.slice none 0 0)),(7,3,.pv (.slice none 0 0)),(7,4,.pv (.slice none 0 0)),(14,0,.ls 8 u.length),(14,1,.ls 9 b.length),(14,2,.ls 10 fr.length),(14,3,.ls 11 n),(14,4,.ls 12 mm),(8,0,zrI u),(9,0,zrB b),(10,0,zrI fr),(11,0,.row 61 5 n (qau (((ev).set k y).set l x))),(12,0,.row 3 1 mm (ziV (((wh).set y.i.toNat (k:Int)).set x.i.toNat (l:Int))))]) e tm2 hp2):Rl 5 16 333 0 17 17 ([(1,.pv (iV (k:Int))),(2,.pp 16 0)]) (qI9 b ev fr mm n u wh) e tm2 hp2:=
 RunsL.next [] 300 [Cf hle [11],.t false,.k,.r (qaa x),.r (qaa y),.k,.w (qau ((ev).set k y)),.w (ziV ((wh).set y.i.toNat (k:Int))),.k,.w (qau (((ev).set k y).set l x)),.w (ziV (((wh).set y.i.toNat (k:Int)).set x.i.toNat (l:Int)))]
  (Ro (Co hle [11] 17 (A9 hq hin_x (qaF he_x) hin_y (qaF he_y) hin_x (qdk (ev) k y hla) (qbl (ev) k hla) hwb (A8 (qcB (wh) y.i.toNat (k:Int) hwbl) (qaQ (wh) y.i.toNat hwbl) hin_y (qdk ((ev).set k y) l x hlb) (qbl ((ev).set k y) l hlb) hwa (qcB ((wh).set y.i.toNat (k:Int)) x.i.toNat (l:Int) hwal) (qaQ ((wh).set y.i.toNat (k:Int)) x.i.toNat hwal) tI)))) r
theorem qlM (hle:qEH ev k l n) (hq:((l:Int)==(k:Int))=true):Rl 5 16 333 0 17 17 ([(1,.pv (iV (k:Int))),(2,.pp 16 0)]) (qI9 b ev fr mm n u wh) (.ret) ([]) (qIf b ev fr mm n u wh):=
 RunsL.stop [] 300 [Cf hle [11],.t true] (fun h=>by cases h)
  (Ro (Co hle [11] 17 (Ai hq tI)))
theorem qx9 {tn td:Int} (hcl:Fn 312 5 [agA u b fr ev wh] (qDA b ev fr u wh) (.ag [.ls 5 u.length,.ls 6 b.length,.ls 7 fr.length,.ls 8 ev.length,.ls 9 wh.length]) 5 (yd u b fr ev wh)) (hik:Bd k ev.length) (hx:ev[k]?=some x) (hset:k<ev.length) (r0:Rl 5 15 334 0 29 16 (qtr k) ([(15,0,.ls 8 u.length),(15,1,.ls 9 b.length),(15,2,.ls 10 fr.length),(15,3,.ls 11 ev.length),(15,4,.ls 12 wh.length),(13,0,.ls 8 u.length),(13,1,.ls 9 b.length),(13,2,.ls 10 fr.length),(13,3,.ls 11 ev.length),(13,4,.ls 12 wh.length),(7,0,.pv (.slice none 0 0)),(7,1,.pv (.slice none 0 0)),(7,2,.pv (.slice none 0 0)),(7,3,.pv (.slice none 0 0)),(7,4,.pv (.slice none 0 0)),(14,0,.ls 8 u.length),(14,1,.ls 9 b.length),(14,2,.ls 10 fr.length),(14,3,.ls 11 ev.length),(14,4,.ls 12 wh.length),(8,0,zrI u),(9,0,zrB b),(10,0,zrI fr),(11,0,.row 61 5 ev.length (qau (ev.set k ⟨tn,td,x.k,x.i,x.w⟩))),(12,0,.row 3 1 wh.length (ziV (wh)))]) (.exit 0) ([(1,.pv (iV (p:Int)))]) ((yb u b fr ev wh ev3 wh3))) (r1:Rl 5 16 333 0 17 17 ([(1,.pv (iV (p:Int))),(2,.pp 16 0)]) ([(16,0,.ls 8 u.length),(16,1,.ls 9 b.length),(16,2,.ls 10 fr.length),(16,3,.ls 11 ev.length),(16,4,.ls 12 wh.length),(13,0,.ls 8 u.length),(13,1,.ls 9 b.length),(13,2,.ls 10 fr.length),(13,3,.ls 11 ev.length),(13,4,.ls 12 wh.length),(7,0,.pv (.slice none 0 0)),(7,1,.pv (.slice none 0 0)),(7,2,.pv (.slice none 0 0)),(7,3,.pv (.slice none 0 0)),(7,4,.pv (.slice none 0 0)),(14,0,.ls 8 u.length),(14,1,.ls 9 b.length),(14,2,.ls 10 fr.length),(14,3,.ls 11 ev.length),(14,4,.ls 12 wh.length),(8,0,zrI u),(9,0,zrB b),(10,0,zrI fr),(11,0,.row 61 5 ev.length (qau (ev3))),(12,0,.row 3 1 wh.length (ziV (wh3)))]) (.ret) ([]) ((yb u b fr ev wh ev4 wh4))) :
 Fn 271 5 [agA u b fr ev wh,.pv (iV (k:Int)),.pv (qab tn td)] (qDA b ev fr u wh) (.ag [.ls 5 u.length,.ls 6 b.length,.ls 7 fr.length,.ls 8 ev.length,.ls 9 wh.length]) 5 [(5,0,zrI u),(6,0,zrB b),(7,0,zrI fr),(8,0,.row 61 5 ev.length (qau (ev4))),(9,0,.row 3 1 wh.length (ziV (wh4)))]:=
 Fz [(5,8),(6,9),(7,10),(8,11),(9,12)] [Cf hcl [0,1,2,3,4],.w (qau (ev.set k ⟨tn,td,x.k,x.i,x.w⟩)),.k,.gh [(14,0),(14,1),(14,2),(14,3),(14,4)],.k,Lf r0,.k,Lf r1]
  (qaG (qaM [(5,8),(6,9),(7,10),(8,11),(9,12)]) [(5,0,zrI u),(6,0,zrB b),(7,0,zrI fr),(8,0,.row 61 5 ev.length (qau (ev4))),(9,0,.row 3 1 wh.length (ziV (wh4)))]) (Co hcl [0,1,2,3,4] 8 (A8 hik (qF2 ev k x tn td hx) (quh ev k hset) (El 8 u.length) (El 9 b.length) (El 10 fr.length) (El 11 ev.length) (El 12 wh.length) (Lo r0 [] (A5 (El 8 u.length) (El 9 b.length) (El 10 fr.length) (El 11 ev.length) (El 12 wh.length) (Lo r1 [] (A5 (El 8 u.length) (El 9 b.length) (El 10 fr.length) (El 11 ev.length) (El 12 wh.length) tI))))))
end Go.Proofs.YtkckcgpmnipnaaaGreat

namespace Go.Proofs.YtkckcgpmnipnaaaGreat
set_option maxRecDepth 100000
open Go.RowKit
variable {e1 e2 z hi hw tn td:Int} {u fr wh u2 f2 wh3:List Int} {b b2:List Bool} {ev ev3:List Ev} {m x:Ev} {k j:Nat}
theorem qH7 (g1:(!(e1==0))=false) (g2:(!(e2==0))=false) :
 Fn 269 1 [.ps 0 0 2 2] [(0,0,.pv (iV e1)),(0,1,.pv (iV e2))] (.pv (iV (0))) 0 []:=
 Fz [] [.k,.t false,.k,.k,.t false,.k,.k]
  tI (A2 g1 g2 tI)
theorem qv4 {e3:Int} (g1:(!(e1==0))=false) (g2:(!(e2==0))=false) (g3:(!(e3==0))=false) :
 Fn 269 1 [.ps 0 0 3 3] [(0,0,.pv (iV e1)),(0,1,.pv (iV e2)),(0,2,.pv (iV e3))] (.pv (iV (0))) 0 []:=
 Fz [] [.k,.t false,.k,.k,.t false,.k,.k,.t false,.k,.k]
  tI (A3 g1 g2 g3 tI)
abbrev qi2 (b:List Bool) (ev:List Ev) (fr:List Int) (u:List Int) (wh:List Int):HpL:=[(0,0,zrI u),(1,0,zrB b),(2,0,zrI fr),(3,0,qap ev),(4,0,zrI wh)]
theorem qAc (hn:Pure Tryz.prog 280 #[iV (z)] (.bool false)) :
 Fn 314 5 [agA u b fr ev wh,.pv (iV (z))] (qi2 b ev fr u wh) (.pv (iV (2))) 0 []:=
 Fz [] [Rf hn,.k]
  tI (Ai hn tI)
abbrev qFU (ev:List Ev) (k:Nat):TmL:=[(0,.ls 3 ev.length),(1,.pc 336 [.pp 6 0]),(7,.pv (iV (ev.length:Int))),(8,.pv (iV (k:Int)))]
theorem qn6 (hk:ev[k]?=some m) (hin:0≤(k:Int)∧(k:Int)<(ev.length:Int)) (hlt:decide ((k:Int)<(ev.length:Int))=true) (hq:(m.k==z)=false) (hs:iV (IntKind.i64.wrap ((k:Int)+1))=iV (((k+1:Nat):Int))) {e:Exit} {tm2:TmL} {hp2:HpL}
 (r:Rl 5 7 346 0 19 7 ([(0,.ls 3 ev.length),(1,.pc 336 [.pp 6 0]),(7,.pv (iV (ev.length:Int))),(8,.pv (iV ((k+1:Nat):Int)))]) ([(6,0,.pv (iV z)),(3,0,qap ev)]) e tm2 hp2):Rl 5 7 346 0 19 7 (qFU ev k) ([(6,0,.pv (iV z)),(3,0,qap ev)]) e tm2 hp2:=
 RunsL.next [] 300 [.t true,.r (qaa m),.k,.t false,Re hs]
  (Ro (A5 hlt hin (qaF hk) hq hs tI)) r
theorem qDv (hk:ev[k]?=some m) (hin:0≤(k:Int)∧(k:Int)<(ev.length:Int)) (hlt:decide ((k:Int)<(ev.length:Int))=true) (hq:(m.k==z)=true):Rl 5 7 346 0 19 7 (qFU ev k) ([(6,0,.pv (iV z)),(3,0,qap ev)]) (.ret) ([(4,.pv (iV (k:Int)))]) ([]):=
 RunsL.stop [] 300 [.t true,.r (qaa m),.k,.t true] (fun h=>by cases h)
  (Ro (A4 hlt hin (qaF hk) hq tI))
theorem qBS (hge:decide ((k:Int)<(ev.length:Int))=false):Rl 5 7 346 0 19 7 (qFU ev k) ([(6,0,.pv (iV z)),(3,0,qap ev)]) (.exit 0) ([]) ([]):=
 RunsL.stop [] 300 [.t false] (fun h=>by cases h)
  (Ro (Ai hge tI))
theorem qsY (hn:Pure Tryz.prog 280 #[iV (z)] (.bool true)) (r0:Rl 5 7 346 0 19 7 ((yz ev)) ([(6,0,.pv (iV z)),(3,0,qap ev)]) (.ret) ([(4,.pv (iV (k:Int)))]) ([])) (h0:Dt ((k:Int)≥0)) :
 Fn 314 5 [agA u b fr ev wh,.pv (iV (z))] (qi2 b ev fr u wh) (.pv (iV (14))) 0 []:=
 Fz [] [Rf hn,.k,.k,.k,Lf r0,.t true]
  tI (Ai hn (Lo r0 [] (Ai h0 tI)))
theorem qF4 (hn:Pure Tryz.prog 280 #[iV (z)] (.bool true)) (r0:Rl 5 7 346 0 19 7 ((yz ev)) ([(6,0,.pv (iV z)),(3,0,qap ev)]) (.exit 0) ([]) ([])) :
 Fn 314 5 [agA u b fr ev wh,.pv (iV (z))] (qi2 b ev fr u wh) (.pv (iV (0))) 0 []:=
 Fz [] [Rf hn,.k,.k,.k,Lf r0,.k]
  tI (Ai hn (Lo r0 [] tI))
theorem qDP (hh:Fn 311 3 [.ag [.ls 0 u.length,.ls 1 b.length,.ls 2 fr.length],.pv (qaK hi hw)] (yi u b fr) (.pv (.tuple #[.bool true,iV 0])) 0 []) :
 Fn 270 5 [agA u b fr ev wh,.pv (qaK hi hw)] (qi2 b ev fr u wh) (.pv (iV (0))) 0 []:=
 Fz [] [Cf hh [0,1,2],.k,.k]
  tI (Co hh [0,1,2] 7 tI)
abbrev qEz (b:List Bool) (ev:List Ev) (fr:List Int) (u:List Int) (wh:List Int):Prop:=Fn 177 5 [agA u b fr ev wh] (qi2 b ev fr u wh) (.pv (iV (0))) 0 []
theorem qHJ (hc:qEz b ev fr u wh) (hl:Fn 270 5 [agA u b fr ev wh,.pv (qaK hi hw)] (qi2 b ev fr u wh) (.pv (iV (0))) 0 []) (hfe:Fn 269 1 [.ps 0 0 2 2] [(0,0,.pv (iV (0))),(0,1,.pv (iV (0)))] (.pv (iV (0))) 0 []) (hiw:0≤hi∧hi<(wh.length:Int)) (hw_:wh[hi.toNat]?=some (j:Int)) (hij:Bd j ev.length) (hx:ev[j]?=some x) :
 Fn 300 5 [agA u b fr ev wh,.pv (qaK hi hw)] (qi2 b ev fr u wh) (.pv (.tuple #[qaa x,iV 0])) 0 []:=
 Fz [] [.md,Cf hc [0,1,2,3,4],Cf hl [0,1,2,3,4],Cf hfe [8],.k,.md,.r (iV (j:Int)),.r (qaa x)]
  tI (Co hc [0,1,2,3,4] 8 (Co hl [0,1,2,3,4] 8 (Co hfe [8] 9 (A4 hiw (qc3 hw_) hij (qaF hx) tI))))
theorem qIr (hf:Fn 300 5 [agA u b fr ev wh,.pv (qaK hi hw)] (qi2 b ev fr u wh) (.pv (.tuple #[qaa x,iV 0])) 0 []) (hiw:0≤hi∧hi<(wh.length:Int)) (hwj:wh[hi.toNat]?=some (j:Int)) (hw_:Fn 301 5 [agA u b fr ev wh,.pv (iV (j:Int))] (qi2 b ev fr u wh) (.ag [.ls 5 u2.length,.ls 6 b2.length,.ls 7 f2.length,.ls 8 ev3.length,.ls 9 wh3.length]) 5 (yd u2 b2 f2 ev3 wh3)) :
 Fn 241 5 [agA u b fr ev wh,.pv (qaK hi hw)] (qi2 b ev fr u wh) (.tu [.ag [.ls 5 u2.length,.ls 6 b2.length,.ls 7 f2.length,.ls 8 ev3.length,.ls 9 wh3.length],.one (.pv (qaa x)),.one (.pv (iV 0))]) 5 (yd u2 b2 f2 ev3 wh3):=
 Fz [(5,10),(6,11),(7,12),(8,13),(9,14)] [Cf hf [0,1,2,3,4],.k,.md,.r (iV (j:Int)),Cf hw_ [0,1,2,3,4]]
  (qaG (qaM [(5,10),(6,11),(7,12),(8,13),(9,14)]) [(5,0,zrI u2),(6,0,zrB b2),(7,0,zrI f2),(8,0,qap ev3),(9,0,zrI wh3)]) (Co hf [0,1,2,3,4] 9 (A2 hiw (qc3 hwj) (Co hw_ [0,1,2,3,4] 10 tI)))
abbrev qF8:Prop:=Fn 269 1 [.ps 0 0 3 3] [(0,0,.pv (iV (0))),(0,1,.pv (iV (0))),(0,2,.pv (iV (0)))] (.pv (iV (0))) 0 []
theorem qH1 (hc:qEz b ev fr u wh) (hr:Pure Tryz.prog 101 #[qab tn td] (iV (0))) (hl:Fn 270 5 [agA u b fr ev wh,.pv (qaK hi hw)] (qi2 b ev fr u wh) (.pv (iV (0))) 0 []) (hfe:qF8) (hiw:0≤hi∧hi<(wh.length:Int)) (hwj:wh[hi.toNat]?=some (j:Int)) (hw_:Fn 271 5 [agA u b fr ev wh,.pv (iV (j:Int)),.pv (qab tn td)] (qi2 b ev fr u wh) (.ag [.ls 5 u.length,.ls 6 b.length,.ls 7 fr.length,.ls 8 ev3.length,.ls 9 wh3.length]) 5 (yd u b fr ev3 wh3)) :
 Fn 218 5 [agA u b fr ev wh,.pv (qaK hi hw),.pv (qab tn td)] (qi2 b ev fr u wh) (.tu [.ag [.ls 5 u.length,.ls 6 b.length,.ls 7 fr.length,.ls 8 ev3.length,.ls 9 wh3.length],.one (.pv (iV 0))]) 5 (yd u b fr ev3 wh3):=
 Fz [(5,10),(6,11),(7,12),(8,13),(9,14)] [.md,Cf hc [0,1,2,3,4],Rf hr,Cf hl [0,1,2,3,4],Cf hfe [9],.k,.md,.r (iV (j:Int)),Cf hw_ [0,1,2,3,4]]
  (qaG (qaM [(5,10),(6,11),(7,12),(8,13),(9,14)]) [(5,0,zrI u),(6,0,zrB b),(7,0,zrI fr),(8,0,qap ev3),(9,0,zrI wh3)]) (Co hc [0,1,2,3,4] 9 (Ai hr (Co hl [0,1,2,3,4] 9 (Co hfe [9] 10 (A2 hiw (qc3 hwj) (Co hw_ [0,1,2,3,4] 10 tI))))))
theorem qxz (hc:qEz b ev fr u wh) (hr:Pure Tryz.prog 101 #[qab tn td] (iV (0))) (hn:Fn 314 5 [agA u b fr ev wh,.pv (iV (z))] (qi2 b ev fr u wh) (.pv (iV (0))) 0 []) (hfe:qF8) (htk:Fn 315 3 [.ag [.ls 0 u.length,.ls 1 b.length,.ls 2 fr.length]] (yi u b fr) (.pv (.tuple #[.agg #[.slice none 0 0,.slice none 0 0,.slice none 0 0],.agg #[iV 0,iV 0],iV 18])) 0 []) :
 Fn 272 5 [agA u b fr ev wh,.pv (qab tn td),.pv (iV (z))] (qi2 b ev fr u wh) (.pv (.tuple #[.agg #[.slice none 0 0,.slice none 0 0,.slice none 0 0,.slice none 0 0,.slice none 0 0],.agg #[iV 0,iV 0],iV 18])) 0 []:=
 Fz [] [.md,Cf hc [0,1,2,3,4],Rf hr,Cf hn [0,1,2,3,4],Cf hfe [9],.k,Cf htk [0,1,2],.k]
  tI (Co hc [0,1,2,3,4] 9 (Ai hr (Co hn [0,1,2,3,4] 9 (Co hfe [9] 10 (Co htk [0,1,2] 10 tI)))))
theorem qGi (hc:qEz b ev fr u wh) (hr:Pure Tryz.prog 101 #[qab tn td] (iV (0))) (hn:Fn 314 5 [agA u b fr ev wh,.pv (iV (z))] (qi2 b ev fr u wh) (.pv (iV (0))) 0 []) (hfe:qF8) (htk:Fn 315 3 [.ag [.ls 0 u.length,.ls 1 b.length,.ls 2 fr.length]] (yi u b fr) (.tu [.ag [.ls 3 u2.length,.ls 4 b2.length,.ls 5 f2.length],.one (.pv (qaK hi hw)),.one (.pv (iV 0))]) 3 [(3,0,zrI u2),(4,0,zrB b2),(5,0,zrI f2)]) (hpu:Fn 316 8 [agA u b fr ev wh,.ag [.ls 5 u2.length,.ls 6 b2.length,.ls 7 f2.length],.pv (qaa (Ev.mk tn td z hi hw))] [(0,0,zrI u),(1,0,zrB b),(2,0,zrI fr),(3,0,qap ev),(4,0,zrI wh),(5,0,zrI u2),(6,0,zrB b2),(7,0,zrI f2)] (.ag [.ls 5 u2.length,.ls 6 b2.length,.ls 7 f2.length,.ls 8 ev3.length,.ls 9 wh3.length]) 2 [(8,0,qap ev3),(9,0,zrI wh3)]) :
 Fn 272 5 [agA u b fr ev wh,.pv (qab tn td),.pv (iV (z))] (qi2 b ev fr u wh) (.tu [.ag [.ls 5 u2.length,.ls 6 b2.length,.ls 7 f2.length,.ls 8 ev3.length,.ls 9 wh3.length],.one (.pv (qaK hi hw)),.one (.pv (iV 0))]) 5 (yd u2 b2 f2 ev3 wh3):=
 Fz [(5,10),(6,11),(7,12),(8,16),(9,17)] [.md,Cf hc [0,1,2,3,4],Rf hr,Cf hn [0,1,2,3,4],Cf hfe [9],.k,Cf htk [0,1,2],.k,.gh [(5,0),(5,1),(5,2),(5,3),(5,4),(13,0),(13,1),(13,2),(15,0),(15,1),(15,2),(15,3),(15,4),(14,0),(14,1)],Cf hpu [0,1,2,3,4,10,11,12]]
  (qaG (qaM [(5,10),(6,11),(7,12),(8,16),(9,17)]) [(5,0,zrI u2),(6,0,zrB b2),(7,0,zrI f2),(8,0,qap ev3),(9,0,zrI wh3)]) (Co hc [0,1,2,3,4] 9 (Ai hr (Co hn [0,1,2,3,4] 9 (Co hfe [9] 10 (Co htk [0,1,2] 10 (Co hpu [0,1,2,3,4,10,11,12] 16 (A9 (El 0 u.length) (El 1 b.length) (El 2 fr.length) (El 3 ev.length) (El 4 wh.length) (El 10 u2.length) (El 11 b2.length) (El 12 f2.length) (Er (SV.pv (iV tn))) (A9 (Er (SV.pv (iV td))) (Er (SV.pv (iV z))) (Er (SV.pv (iV hi))) (Er (SV.pv (iV hw))) (Er (SV.pv (iV hi))) (Er (SV.pv (iV hw))) (El 0 u.length) (El 1 b.length) (El 2 fr.length) (A9 (El 3 ev.length) (El 4 wh.length) (El 10 u2.length) (El 11 b2.length) (El 12 f2.length) (Er (SV.pv (iV tn))) (Er (SV.pv (iV td))) (Er (SV.pv (iV z))) (Er (SV.pv (iV hi))) (A9 (Er (SV.pv (iV hw))) (Er (SV.pv (iV hi))) (Er (SV.pv (iV hw))) (El 0 u.length) (El 1 b.length) (El 2 fr.length) (El 3 ev.length) (El 4 wh.length) (El 10 u2.length) (A9 (El 11 b2.length) (El 12 f2.length) (Er (SV.pv (iV tn))) (Er (SV.pv (iV td))) (Er (SV.pv (iV z))) (Er (SV.pv (iV hi))) (Er (SV.pv (iV hw))) (Er (SV.pv (iV hi))) (Er (SV.pv (iV hw))) (A9 (El 0 u.length) (El 1 b.length) (El 2 fr.length) (El 3 ev.length) (El 4 wh.length) (El 10 u2.length) (El 11 b2.length) (El 12 f2.length) (Er (SV.pv (iV tn))) (A6 (Er (SV.pv (iV td))) (Er (SV.pv (iV z))) (Er (SV.pv (iV hi))) (Er (SV.pv (iV hw))) (Er (SV.pv (iV hi))) (Er (SV.pv (iV hw))) tI)))))))))))))
end Go.Proofs.YtkckcgpmnipnaaaGreat

namespace Go.Proofs.YtkckcgpmnipnaaaGreat
set_option maxRecDepth 100000
open Go.RowKit
structure AInv (n mm:Nat) (ev:List Ev) (wh:List Int):Prop where
 len:ev.length=n
 wl:wh.length=mm
 ok:∀ x∈ev,EvOk x
 ix:∀ x∈ev,0≤x.i∧x.i<(mm:Int)
abbrev swE (ev:List Ev) (i j:Nat) (x y:Ev):List Ev:=(ev.set i y).set j x
abbrev swW (wh:List Int) (i j:Nat) (x y:Ev):List Int:=(wh.set y.i.toNat (i:Int)).set x.i.toNat (j:Int)
theorem qlw {ev:List Ev} {i j:Nat} {x y z:Ev} (hx:x∈ev) (hy:y∈ev) (h:z∈swE ev i j x y):z∈ev:=by
 rcases List.mem_or_eq_of_mem_set h with h | h
 ·rcases List.mem_or_eq_of_mem_set h with h | h
  ·exact h
  ·subst h;exact hy
 ·subst h;exact hx
theorem AInv.swap {n mm:Nat} {ev:List Ev} {wh:List Int} {i j:Nat} {x y:Ev} (h:AInv n mm ev wh) (hx:x∈ev) (hy:y∈ev):AInv n mm (swE ev i j x y) (swW wh i j x y):=
 ⟨by rw[List.length_set,List.length_set];exact h.len,by rw[List.length_set,List.length_set];exact h.wl,fun z hz=>h.ok z (qlw hx hy hz),fun z hz=>h.ix z (qlw hx hy hz)⟩
def upM:Nat→List Ev→List Int→Nat→List Ev×List Int×Nat
 | 0,ev,wh,i=>(ev,wh,i)
 | d+1,ev,wh,i=>if i=0 then (ev,wh,i) else match ev[i]?,ev[(i-1)/2]? with
  | some x,some y=>if ltE x y=true then upM d (swE ev i ((i-1)/2) x y) (swW wh i ((i-1)/2) x y) ((i-1)/2) else (ev,wh,i)
  | _,_=>(ev,wh,i)
def dnM:Nat→List Ev→List Int→Nat→List Ev×List Int
 | 0,ev,wh,_=>(ev,wh)
 | d+1,ev,wh,i=>if qaw ev i=i then (ev,wh) else match ev[i]?,ev[qaw ev i]? with
  | some x,some y=>dnM d (swE ev i (qaw ev i) x y) (swW wh i (qaw ev i) x y) (qaw ev i)
  | _,_=>(ev,wh)
theorem qdO {n mm:Nat} {Q:Nat→List Ev→List Int→Nat→List Ev→List Int→Prop}
 (next:∀ i ev wh x y i' ev' wh',AInv n mm ev wh→0<i→i<n→ev[i]?=some x→ev[(i-1)/2]?=some y→ltE x y=true→Q ((i-1)/2) (swE ev i ((i-1)/2) x y) (swW wh i ((i-1)/2) x y) i' ev' wh'→Q i ev wh i' ev' wh')
 (stop:∀ i ev wh x y,AInv n mm ev wh→0<i→i<n→ev[i]?=some x→ev[(i-1)/2]?=some y→ltE x y=false→Q i ev wh i ev wh)
 (zero:∀ ev wh,AInv n mm ev wh→Q 0 ev wh 0 ev wh) :
 ∀ (d i:Nat) (ev:List Ev) (wh:List Int),i≤d→i<n→AInv n mm ev wh→Q i ev wh (upM d ev wh i).2.2 (upM d ev wh i).1 (upM d ev wh i).2.1∧AInv n mm (upM d ev wh i).1 (upM d ev wh i).2.1∧(upM d ev wh i).2.2<n
 | 0,i,ev,wh,a,b,c=>by
  have:i=0:=by omega
  subst this;exact⟨zero ev wh c,c,b⟩
 | d+1,i,ev,wh,a,b,c=>by
  by_cases h0:i=0
  ·subst h0
   have e:upM (d+1) ev wh 0=(ev,wh,0):=by simp[upM]
   rw[e];exact⟨zero ev wh c,c,b⟩
  ·have l1:=c.len;have hx:ev[i]?=some ev[i]:=List.getElem?_eq_getElem (by omega);have hy:ev[(i-1)/2]?=some (ev[(i-1)/2]'(by omega)):=List.getElem?_eq_getElem (by omega);generalize ev[i]=x at hx;generalize ev[(i-1)/2]'(by omega)=y at hy;cases hl:ltE x y
   ·have e:upM (d+1) ev wh i=(ev,wh,i):=by simp[upM,h0,hx,hy,hl]
    rw[e];exact⟨stop i ev wh x y c (by omega) b hx hy hl,c,b⟩
   ·have e:upM (d+1) ev wh i=upM d (swE ev i ((i-1)/2) x y) (swW wh i ((i-1)/2) x y) ((i-1)/2):=by simp[upM,h0,hx,hy,hl]
    rw[e]
    obtain⟨r1,r2,r3⟩:=qdO next stop zero d ((i-1)/2) (swE ev i ((i-1)/2) x y) (swW wh i ((i-1)/2) x y) (by omega) (by omega) (c.swap (List.mem_of_getElem? hx) (List.mem_of_getElem? hy))
    exact⟨next i ev wh x y _ _ _ c (by omega) b hx hy hl r1,r2,r3⟩
theorem qpp (ev:List Ev) (i:Nat):qbk ev i=i∨(qbk ev i=2*i+1∧2*i+1<ev.length):=by
 unfold qbk;split
 ·rename_i x m h _;split
  ·exact Or.inr ⟨rfl,(List.getElem?_eq_some_iff.1 h).1⟩
  ·exact Or.inl rfl
 ·exact Or.inl rfl
theorem qhP (ev:List Ev) (i:Nat):qaw ev i=i∨(i<qaw ev i∧qaw ev i<ev.length∧(qaw ev i=2*i+1∨qaw ev i=2*i+2)):=by
 have ha:=qpp ev i
 have key:qaw ev i=qbk ev i∨(qaw ev i=2*i+2∧2*i+2<ev.length):=by
  unfold qaw;split
  ·rename_i y m h _;split
   ·exact Or.inr ⟨rfl,(List.getElem?_eq_some_iff.1 h).1⟩
   ·exact Or.inl rfl
  ·exact Or.inl rfl
 omega
theorem qf1 {n mm:Nat} {Q:Nat→List Ev→List Int→List Ev→List Int→Prop}
 (next:∀ i ev wh x y ev' wh',AInv n mm ev wh→i<n→qaw ev i≠i→ev[i]?=some x→ev[qaw ev i]?=some y→qaw ev i<n→Q (qaw ev i) (swE ev i (qaw ev i) x y) (swW wh i (qaw ev i) x y) ev' wh'→Q i ev wh ev' wh')
 (stop:∀ i ev wh,AInv n mm ev wh→i<n→qaw ev i=i→Q i ev wh ev wh) :
 ∀ (d i:Nat) (ev:List Ev) (wh:List Int),n≤i+d→i<n→AInv n mm ev wh→Q i ev wh (dnM d ev wh i).1 (dnM d ev wh i).2∧AInv n mm (dnM d ev wh i).1 (dnM d ev wh i).2
 | 0,i,ev,wh,a,b,c=>by omega
 | d+1,i,ev,wh,a,b,c=>by
  have l1:=c.len;by_cases h0:qaw ev i=i
  ·have e:dnM (d+1) ev wh i=(ev,wh):=by simp[dnM,h0]
   rw[e];exact⟨stop i ev wh c b h0,c⟩
  ·obtain⟨g1,g2,_⟩:=(qhP ev i).resolve_left h0;have hx:ev[i]?=some ev[i]:=List.getElem?_eq_getElem (by omega);have hy:ev[qaw ev i]?=some ev[qaw ev i]:=List.getElem?_eq_getElem g2;generalize ev[i]=x at hx;generalize ev[qaw ev i]=y at hy
   have e:dnM (d+1) ev wh i=dnM d (swE ev i (qaw ev i) x y) (swW wh i (qaw ev i) x y) (qaw ev i):=by
    conv=>lhs;unfold dnM
    rw[if_neg h0];simp only[hx,hy]
   rw[e]
   obtain⟨r1,r2⟩:=qf1 next stop d (qaw ev i) (swE ev i (qaw ev i) x y) (swW wh i (qaw ev i) x y) (by omega) (by omega) (c.swap (List.mem_of_getElem? hx) (List.mem_of_getElem? hy))
   exact⟨next i ev wh x y _ _ c b h0 hx hy (by omega) r1,r2⟩
theorem qFV {u2:List Int} {b2:List Bool} {f2:List Int} {n mm:Nat} (hn:n≤1000000) (d ii:Nat) (ev:List Ev) (wh:List Int) (a:ii≤d) (c:ii<n) (I:AInv n mm ev wh):Rl 8 19 334 0 29 20 ([(1,.pv (iV (ii:Int))),(2,.pp 19 0)]) ([(19,0,.ls 5 u2.length),(19,1,.ls 6 b2.length),(19,2,.ls 7 f2.length),(19,3,.ls 14 n),(19,4,.ls 15 mm),(16,0,.ls 5 u2.length),(16,1,.ls 6 b2.length),(16,2,.ls 7 f2.length),(16,3,.ls 14 n),(16,4,.ls 15 mm),(11,0,.pv (.slice none 0 0)),(11,1,.pv (.slice none 0 0)),(11,2,.pv (.slice none 0 0)),(11,3,.pv (.slice none 0 0)),(11,4,.pv (.slice none 0 0)),(14,0,.row 61 5 n (qau (ev))),(15,0,.row 3 1 mm (ziV (wh)))]) (.exit 0) [(1,.pv (iV ((upM d ev wh ii).2.2:Int)))] ([(16,0,.ls 5 u2.length),(16,1,.ls 6 b2.length),(16,2,.ls 7 f2.length),(16,3,.ls 14 n),(16,4,.ls 15 mm),(11,0,.pv (.slice none 0 0)),(11,1,.pv (.slice none 0 0)),(11,2,.pv (.slice none 0 0)),(11,3,.pv (.slice none 0 0)),(11,4,.pv (.slice none 0 0)),(14,0,.row 61 5 n (qau ((upM d ev wh ii).1))),(15,0,.row 3 1 mm (ziV ((upM d ev wh ii).2.1)))]):=by
 refine (qdO (n:=n) (mm:=mm) (Q:=fun (ii:Nat) ev wh (ii':Nat) ev' wh'=>Rl 8 19 334 0 29 20 ([(1,.pv (iV (ii:Int))),(2,.pp 19 0)]) ([(19,0,.ls 5 u2.length),(19,1,.ls 6 b2.length),(19,2,.ls 7 f2.length),(19,3,.ls 14 n),(19,4,.ls 15 mm),(16,0,.ls 5 u2.length),(16,1,.ls 6 b2.length),(16,2,.ls 7 f2.length),(16,3,.ls 14 n),(16,4,.ls 15 mm),(11,0,.pv (.slice none 0 0)),(11,1,.pv (.slice none 0 0)),(11,2,.pv (.slice none 0 0)),(11,3,.pv (.slice none 0 0)),(11,4,.pv (.slice none 0 0)),(14,0,.row 61 5 n (qau (ev))),(15,0,.row 3 1 mm (ziV (wh)))]) (.exit 0) [(1,.pv (iV (ii':Int)))] ([(16,0,.ls 5 u2.length),(16,1,.ls 6 b2.length),(16,2,.ls 7 f2.length),(16,3,.ls 14 n),(16,4,.ls 15 mm),(11,0,.pv (.slice none 0 0)),(11,1,.pv (.slice none 0 0)),(11,2,.pv (.slice none 0 0)),(11,3,.pv (.slice none 0 0)),(11,4,.pv (.slice none 0 0)),(14,0,.row 61 5 n (qau (ev'))),(15,0,.row 3 1 mm (ziV (wh')))])) ?_ ?_ ?_ d ii ev wh a c I).1
 ·intro i ev wh x y i' ev' wh' I h0 hi hx hy hl r;have ox:=I.ok x (List.mem_of_getElem? hx);have oy:=I.ok y (List.mem_of_getElem? hy);have ix:=I.ix x (List.mem_of_getElem? hx);have iy:=I.ix y (List.mem_of_getElem? hy);have l1:=I.len;have l2:=I.wl;have hc:=qbG ox oy;rw[hl] at hc;exact qma ⟨by omega,by omega⟩ hx ⟨by omega,by omega⟩ hy (decide_eq_true (by omega)) (qbj (by omega) (by omega)) hc (by omega) iy (by omega) (by rw[List.length_set];omega) ix (by rw[List.length_set];omega) r
 ·intro i ev wh x y I h0 hi hx hy hl;have hc:=qbG (I.ok x (List.mem_of_getElem? hx)) (I.ok y (List.mem_of_getElem? hy));rw[hl] at hc;exact qmt ⟨by omega,by omega⟩ hx ⟨by omega,by omega⟩ hy (decide_eq_true (by omega)) (qbj (by omega) (by omega)) hc
 ·intro ev wh I;exact qmx (k:=0) (decide_eq_false (by omega))
theorem qGx {u2:List Int} {b2:List Bool} {f2:List Int} {n mm:Nat} (hn:n≤1000000) (d ii:Nat) (ev:List Ev) (wh:List Int) (a:ii≤d) (c:ii<n) (I:AInv n mm ev wh):Rl 5 18 334 0 29 19 ([(1,.pv (iV (ii:Int))),(2,.pp 18 0)]) ([(18,0,.ls 8 u2.length),(18,1,.ls 9 b2.length),(18,2,.ls 10 f2.length),(18,3,.ls 12 n),(18,4,.ls 13 mm),(14,0,.ls 8 u2.length),(14,1,.ls 9 b2.length),(14,2,.ls 10 f2.length),(14,3,.ls 12 n),(14,4,.ls 13 mm),(6,0,.pv (.slice none 0 0)),(6,1,.pv (.slice none 0 0)),(6,2,.pv (.slice none 0 0)),(6,3,.pv (.slice none 0 0)),(6,4,.pv (.slice none 0 0)),(17,0,.ls 8 u2.length),(17,1,.ls 9 b2.length),(17,2,.ls 10 f2.length),(17,3,.ls 12 n),(17,4,.ls 13 mm),(8,0,zrI u2),(9,0,zrB b2),(10,0,zrI f2),(12,0,.row 61 5 n (qau (ev))),(13,0,.row 3 1 mm (ziV (wh)))]) (.exit 0) [(1,.pv (iV ((upM d ev wh ii).2.2:Int)))] ([(14,0,.ls 8 u2.length),(14,1,.ls 9 b2.length),(14,2,.ls 10 f2.length),(14,3,.ls 12 n),(14,4,.ls 13 mm),(6,0,.pv (.slice none 0 0)),(6,1,.pv (.slice none 0 0)),(6,2,.pv (.slice none 0 0)),(6,3,.pv (.slice none 0 0)),(6,4,.pv (.slice none 0 0)),(17,0,.ls 8 u2.length),(17,1,.ls 9 b2.length),(17,2,.ls 10 f2.length),(17,3,.ls 12 n),(17,4,.ls 13 mm),(8,0,zrI u2),(9,0,zrB b2),(10,0,zrI f2),(12,0,.row 61 5 n (qau ((upM d ev wh ii).1))),(13,0,.row 3 1 mm (ziV ((upM d ev wh ii).2.1)))]):=by
 refine (qdO (n:=n) (mm:=mm) (Q:=fun (ii:Nat) ev wh (ii':Nat) ev' wh'=>Rl 5 18 334 0 29 19 ([(1,.pv (iV (ii:Int))),(2,.pp 18 0)]) ([(18,0,.ls 8 u2.length),(18,1,.ls 9 b2.length),(18,2,.ls 10 f2.length),(18,3,.ls 12 n),(18,4,.ls 13 mm),(14,0,.ls 8 u2.length),(14,1,.ls 9 b2.length),(14,2,.ls 10 f2.length),(14,3,.ls 12 n),(14,4,.ls 13 mm),(6,0,.pv (.slice none 0 0)),(6,1,.pv (.slice none 0 0)),(6,2,.pv (.slice none 0 0)),(6,3,.pv (.slice none 0 0)),(6,4,.pv (.slice none 0 0)),(17,0,.ls 8 u2.length),(17,1,.ls 9 b2.length),(17,2,.ls 10 f2.length),(17,3,.ls 12 n),(17,4,.ls 13 mm),(8,0,zrI u2),(9,0,zrB b2),(10,0,zrI f2),(12,0,.row 61 5 n (qau (ev))),(13,0,.row 3 1 mm (ziV (wh)))]) (.exit 0) [(1,.pv (iV (ii':Int)))] ([(14,0,.ls 8 u2.length),(14,1,.ls 9 b2.length),(14,2,.ls 10 f2.length),(14,3,.ls 12 n),(14,4,.ls 13 mm),(6,0,.pv (.slice none 0 0)),(6,1,.pv (.slice none 0 0)),(6,2,.pv (.slice none 0 0)),(6,3,.pv (.slice none 0 0)),(6,4,.pv (.slice none 0 0)),(17,0,.ls 8 u2.length),(17,1,.ls 9 b2.length),(17,2,.ls 10 f2.length),(17,3,.ls 12 n),(17,4,.ls 13 mm),(8,0,zrI u2),(9,0,zrB b2),(10,0,zrI f2),(12,0,.row 61 5 n (qau (ev'))),(13,0,.row 3 1 mm (ziV (wh')))])) ?_ ?_ ?_ d ii ev wh a c I).1
 ·intro i ev wh x y i' ev' wh' I h0 hi hx hy hl r;have ox:=I.ok x (List.mem_of_getElem? hx);have oy:=I.ok y (List.mem_of_getElem? hy);have ix:=I.ix x (List.mem_of_getElem? hx);have iy:=I.ix y (List.mem_of_getElem? hy);have l1:=I.len;have l2:=I.wl;have hc:=qbG ox oy;rw[hl] at hc;exact qlL ⟨by omega,by omega⟩ hx ⟨by omega,by omega⟩ hy (decide_eq_true (by omega)) (qbj (by omega) (by omega)) hc (by omega) iy (by omega) (by rw[List.length_set];omega) ix (by rw[List.length_set];omega) r
 ·intro i ev wh x y I h0 hi hx hy hl;have hc:=qbG (I.ok x (List.mem_of_getElem? hx)) (I.ok y (List.mem_of_getElem? hy));rw[hl] at hc;exact qmy ⟨by omega,by omega⟩ hx ⟨by omega,by omega⟩ hy (decide_eq_true (by omega)) (qbj (by omega) (by omega)) hc
 ·intro ev wh I;exact qm7 (k:=0) (decide_eq_false (by omega))
theorem qGX {u2:List Int} {b2:List Bool} {f2:List Int} {n mm:Nat} (hn:n≤1000000) (d ii:Nat) (ev:List Ev) (wh:List Int) (a:n≤ii+d) (c:ii<n) (I:AInv n mm ev wh):Rl 5 19 333 0 17 20 ([(1,.pv (iV (ii:Int))),(2,.pp 19 0)]) ([(19,0,.ls 8 u2.length),(19,1,.ls 9 b2.length),(19,2,.ls 10 f2.length),(19,3,.ls 12 n),(19,4,.ls 13 mm),(14,0,.ls 8 u2.length),(14,1,.ls 9 b2.length),(14,2,.ls 10 f2.length),(14,3,.ls 12 n),(14,4,.ls 13 mm),(6,0,.pv (.slice none 0 0)),(6,1,.pv (.slice none 0 0)),(6,2,.pv (.slice none 0 0)),(6,3,.pv (.slice none 0 0)),(6,4,.pv (.slice none 0 0)),(17,0,.ls 8 u2.length),(17,1,.ls 9 b2.length),(17,2,.ls 10 f2.length),(17,3,.ls 12 n),(17,4,.ls 13 mm),(8,0,zrI u2),(9,0,zrB b2),(10,0,zrI f2),(12,0,.row 61 5 n (qau (ev))),(13,0,.row 3 1 mm (ziV (wh)))]) .ret [] ([(14,0,.ls 8 u2.length),(14,1,.ls 9 b2.length),(14,2,.ls 10 f2.length),(14,3,.ls 12 n),(14,4,.ls 13 mm),(6,0,.pv (.slice none 0 0)),(6,1,.pv (.slice none 0 0)),(6,2,.pv (.slice none 0 0)),(6,3,.pv (.slice none 0 0)),(6,4,.pv (.slice none 0 0)),(17,0,.ls 8 u2.length),(17,1,.ls 9 b2.length),(17,2,.ls 10 f2.length),(17,3,.ls 12 n),(17,4,.ls 13 mm),(8,0,zrI u2),(9,0,zrB b2),(10,0,zrI f2),(12,0,.row 61 5 n (qau ((dnM d ev wh ii).1))),(13,0,.row 3 1 mm (ziV ((dnM d ev wh ii).2)))]):=by
 refine (qf1 (n:=n) (mm:=mm) (Q:=fun (ii:Nat) ev wh ev' wh'=>Rl 5 19 333 0 17 20 ([(1,.pv (iV (ii:Int))),(2,.pp 19 0)]) ([(19,0,.ls 8 u2.length),(19,1,.ls 9 b2.length),(19,2,.ls 10 f2.length),(19,3,.ls 12 n),(19,4,.ls 13 mm),(14,0,.ls 8 u2.length),(14,1,.ls 9 b2.length),(14,2,.ls 10 f2.length),(14,3,.ls 12 n),(14,4,.ls 13 mm),(6,0,.pv (.slice none 0 0)),(6,1,.pv (.slice none 0 0)),(6,2,.pv (.slice none 0 0)),(6,3,.pv (.slice none 0 0)),(6,4,.pv (.slice none 0 0)),(17,0,.ls 8 u2.length),(17,1,.ls 9 b2.length),(17,2,.ls 10 f2.length),(17,3,.ls 12 n),(17,4,.ls 13 mm),(8,0,zrI u2),(9,0,zrB b2),(10,0,zrI f2),(12,0,.row 61 5 n (qau (ev))),(13,0,.row 3 1 mm (ziV (wh)))]) .ret [] ([(14,0,.ls 8 u2.length),(14,1,.ls 9 b2.length),(14,2,.ls 10 f2.length),(14,3,.ls 12 n),(14,4,.ls 13 mm),(6,0,.pv (.slice none 0 0)),(6,1,.pv (.slice none 0 0)),(6,2,.pv (.slice none 0 0)),(6,3,.pv (.slice none 0 0)),(6,4,.pv (.slice none 0 0)),(17,0,.ls 8 u2.length),(17,1,.ls 9 b2.length),(17,2,.ls 10 f2.length),(17,3,.ls 12 n),(17,4,.ls 13 mm),(8,0,zrI u2),(9,0,zrB b2),(10,0,zrI f2),(12,0,.row 61 5 n (qau (ev'))),(13,0,.row 3 1 mm (ziV (wh')))])) ?_ ?_ d ii ev wh a c I).1
 ·intro i ev wh x y ev' wh' I hi hl hx hy hlt r;have ix:=I.ix x (List.mem_of_getElem? hx);have iy:=I.ix y (List.mem_of_getElem? hy);have l1:=I.len;have l2:=I.wl;have hle:=qdJ I.ok (by omega) (show i<ev.length by omega);simp only[qap,l1] at hle;exact qmo hle (by simp;omega) ⟨by omega,by omega⟩ hx ⟨by omega,by omega⟩ hy (by omega) iy (by omega) (by rw[List.length_set];omega) ix (by rw[List.length_set];omega) r
 ·intro i ev wh I hi hl;have l1:=I.len;have hle:=qdJ I.ok (by omega) (show i<ev.length by omega);simp only[qap,l1] at hle;exact qmc hle (by simp;omega)
theorem qID {u:List Int} {b:List Bool} {fr:List Int} {n mm:Nat} (hn:n≤1000000) (d ii:Nat) (ev:List Ev) (wh:List Int) (a:ii≤d) (c:ii<n) (I:AInv n mm ev wh):Rl 5 15 334 0 29 16 ([(1,.pv (iV (ii:Int))),(2,.pp 15 0)]) ([(15,0,.ls 8 u.length),(15,1,.ls 9 b.length),(15,2,.ls 10 fr.length),(15,3,.ls 11 n),(15,4,.ls 12 mm),(13,0,.ls 8 u.length),(13,1,.ls 9 b.length),(13,2,.ls 10 fr.length),(13,3,.ls 11 n),(13,4,.ls 12 mm),(7,0,.pv (.slice none 0 0)),(7,1,.pv (.slice none 0 0)),(7,2,.pv (.slice none 0 0)),(7,3,.pv (.slice none 0 0)),(7,4,.pv (.slice none 0 0)),(14,0,.ls 8 u.length),(14,1,.ls 9 b.length),(14,2,.ls 10 fr.length),(14,3,.ls 11 n),(14,4,.ls 12 mm),(8,0,zrI u),(9,0,zrB b),(10,0,zrI fr),(11,0,.row 61 5 n (qau (ev))),(12,0,.row 3 1 mm (ziV (wh)))]) (.exit 0) [(1,.pv (iV ((upM d ev wh ii).2.2:Int)))] ([(13,0,.ls 8 u.length),(13,1,.ls 9 b.length),(13,2,.ls 10 fr.length),(13,3,.ls 11 n),(13,4,.ls 12 mm),(7,0,.pv (.slice none 0 0)),(7,1,.pv (.slice none 0 0)),(7,2,.pv (.slice none 0 0)),(7,3,.pv (.slice none 0 0)),(7,4,.pv (.slice none 0 0)),(14,0,.ls 8 u.length),(14,1,.ls 9 b.length),(14,2,.ls 10 fr.length),(14,3,.ls 11 n),(14,4,.ls 12 mm),(8,0,zrI u),(9,0,zrB b),(10,0,zrI fr),(11,0,.row 61 5 n (qau ((upM d ev wh ii).1))),(12,0,.row 3 1 mm (ziV ((upM d ev wh ii).2.1)))]):=by
 refine (qdO (n:=n) (mm:=mm) (Q:=fun (ii:Nat) ev wh (ii':Nat) ev' wh'=>Rl 5 15 334 0 29 16 ([(1,.pv (iV (ii:Int))),(2,.pp 15 0)]) ([(15,0,.ls 8 u.length),(15,1,.ls 9 b.length),(15,2,.ls 10 fr.length),(15,3,.ls 11 n),(15,4,.ls 12 mm),(13,0,.ls 8 u.length),(13,1,.ls 9 b.length),(13,2,.ls 10 fr.length),(13,3,.ls 11 n),(13,4,.ls 12 mm),(7,0,.pv (.slice none 0 0)),(7,1,.pv (.slice none 0 0)),(7,2,.pv (.slice none 0 0)),(7,3,.pv (.slice none 0 0)),(7,4,.pv (.slice none 0 0)),(14,0,.ls 8 u.length),(14,1,.ls 9 b.length),(14,2,.ls 10 fr.length),(14,3,.ls 11 n),(14,4,.ls 12 mm),(8,0,zrI u),(9,0,zrB b),(10,0,zrI fr),(11,0,.row 61 5 n (qau (ev))),(12,0,.row 3 1 mm (ziV (wh)))]) (.exit 0) [(1,.pv (iV (ii':Int)))] ([(13,0,.ls 8 u.length),(13,1,.ls 9 b.length),(13,2,.ls 10 fr.length),(13,3,.ls 11 n),(13,4,.ls 12 mm),(7,0,.pv (.slice none 0 0)),(7,1,.pv (.slice none 0 0)),(7,2,.pv (.slice none 0 0)),(7,3,.pv (.slice none 0 0)),(7,4,.pv (.slice none 0 0)),(14,0,.ls 8 u.length),(14,1,.ls 9 b.length),(14,2,.ls 10 fr.length),(14,3,.ls 11 n),(14,4,.ls 12 mm),(8,0,zrI u),(9,0,zrB b),(10,0,zrI fr),(11,0,.row 61 5 n (qau (ev'))),(12,0,.row 3 1 mm (ziV (wh')))])) ?_ ?_ ?_ d ii ev wh a c I).1
 ·intro i ev wh x y i' ev' wh' I h0 hi hx hy hl r;have ox:=I.ok x (List.mem_of_getElem? hx);have oy:=I.ok y (List.mem_of_getElem? hy);have ix:=I.ix x (List.mem_of_getElem? hx);have iy:=I.ix y (List.mem_of_getElem? hy);have l1:=I.len;have l2:=I.wl;have hc:=qbG ox oy;rw[hl] at hc;exact qm8 ⟨by omega,by omega⟩ hx ⟨by omega,by omega⟩ hy (decide_eq_true (by omega)) (qbj (by omega) (by omega)) hc (by omega) iy (by omega) (by rw[List.length_set];omega) ix (by rw[List.length_set];omega) r
 ·intro i ev wh x y I h0 hi hx hy hl;have hc:=qbG (I.ok x (List.mem_of_getElem? hx)) (I.ok y (List.mem_of_getElem? hy));rw[hl] at hc;exact qmN ⟨by omega,by omega⟩ hx ⟨by omega,by omega⟩ hy (decide_eq_true (by omega)) (qbj (by omega) (by omega)) hc
 ·intro ev wh I;exact qmK (k:=0) (decide_eq_false (by omega))
theorem qFL {u:List Int} {b:List Bool} {fr:List Int} {n mm:Nat} (hn:n≤1000000) (d ii:Nat) (ev:List Ev) (wh:List Int) (a:n≤ii+d) (c:ii<n) (I:AInv n mm ev wh):Rl 5 16 333 0 17 17 ([(1,.pv (iV (ii:Int))),(2,.pp 16 0)]) ([(16,0,.ls 8 u.length),(16,1,.ls 9 b.length),(16,2,.ls 10 fr.length),(16,3,.ls 11 n),(16,4,.ls 12 mm),(13,0,.ls 8 u.length),(13,1,.ls 9 b.length),(13,2,.ls 10 fr.length),(13,3,.ls 11 n),(13,4,.ls 12 mm),(7,0,.pv (.slice none 0 0)),(7,1,.pv (.slice none 0 0)),(7,2,.pv (.slice none 0 0)),(7,3,.pv (.slice none 0 0)),(7,4,.pv (.slice none 0 0)),(14,0,.ls 8 u.length),(14,1,.ls 9 b.length),(14,2,.ls 10 fr.length),(14,3,.ls 11 n),(14,4,.ls 12 mm),(8,0,zrI u),(9,0,zrB b),(10,0,zrI fr),(11,0,.row 61 5 n (qau (ev))),(12,0,.row 3 1 mm (ziV (wh)))]) .ret [] ([(13,0,.ls 8 u.length),(13,1,.ls 9 b.length),(13,2,.ls 10 fr.length),(13,3,.ls 11 n),(13,4,.ls 12 mm),(7,0,.pv (.slice none 0 0)),(7,1,.pv (.slice none 0 0)),(7,2,.pv (.slice none 0 0)),(7,3,.pv (.slice none 0 0)),(7,4,.pv (.slice none 0 0)),(14,0,.ls 8 u.length),(14,1,.ls 9 b.length),(14,2,.ls 10 fr.length),(14,3,.ls 11 n),(14,4,.ls 12 mm),(8,0,zrI u),(9,0,zrB b),(10,0,zrI fr),(11,0,.row 61 5 n (qau ((dnM d ev wh ii).1))),(12,0,.row 3 1 mm (ziV ((dnM d ev wh ii).2)))]):=by
 refine (qf1 (n:=n) (mm:=mm) (Q:=fun (ii:Nat) ev wh ev' wh'=>Rl 5 16 333 0 17 17 ([(1,.pv (iV (ii:Int))),(2,.pp 16 0)]) ([(16,0,.ls 8 u.length),(16,1,.ls 9 b.length),(16,2,.ls 10 fr.length),(16,3,.ls 11 n),(16,4,.ls 12 mm),(13,0,.ls 8 u.length),(13,1,.ls 9 b.length),(13,2,.ls 10 fr.length),(13,3,.ls 11 n),(13,4,.ls 12 mm),(7,0,.pv (.slice none 0 0)),(7,1,.pv (.slice none 0 0)),(7,2,.pv (.slice none 0 0)),(7,3,.pv (.slice none 0 0)),(7,4,.pv (.slice none 0 0)),(14,0,.ls 8 u.length),(14,1,.ls 9 b.length),(14,2,.ls 10 fr.length),(14,3,.ls 11 n),(14,4,.ls 12 mm),(8,0,zrI u),(9,0,zrB b),(10,0,zrI fr),(11,0,.row 61 5 n (qau (ev))),(12,0,.row 3 1 mm (ziV (wh)))]) .ret [] ([(13,0,.ls 8 u.length),(13,1,.ls 9 b.length),(13,2,.ls 10 fr.length),(13,3,.ls 11 n),(13,4,.ls 12 mm),(7,0,.pv (.slice none 0 0)),(7,1,.pv (.slice none 0 0)),(7,2,.pv (.slice none 0 0)),(7,3,.pv (.slice none 0 0)),(7,4,.pv (.slice none 0 0)),(14,0,.ls 8 u.length),(14,1,.ls 9 b.length),(14,2,.ls 10 fr.length),(14,3,.ls 11 n),(14,4,.ls 12 mm),(8,0,zrI u),(9,0,zrB b),(10,0,zrI fr),(11,0,.row 61 5 n (qau (ev'))),(12,0,.row 3 1 mm (ziV (wh')))])) ?_ ?_ d ii ev wh a c I).1
 ·intro i ev wh x y ev' wh' I hi hl hx hy hlt r;have ix:=I.ix x (List.mem_of_getElem? hx);have iy:=I.ix y (List.mem_of_getElem? hy);have l1:=I.len;have l2:=I.wl;have hle:=qdJ I.ok (by omega) (show i<ev.length by omega);simp only[qap,l1] at hle;exact qlC hle (by simp;omega) ⟨by omega,by omega⟩ hx ⟨by omega,by omega⟩ hy (by omega) iy (by omega) (by rw[List.length_set];omega) ix (by rw[List.length_set];omega) r
 ·intro i ev wh I hi hl;have l1:=I.len;have hle:=qdJ I.ok (by omega) (show i<ev.length by omega);simp only[qap,l1] at hle;exact qlM hle (by simp;omega)
theorem qnG:∀ (n:Nat) (l:List Nat),l.Nodup→(∀ x∈l,x<n)→l.length≤n
 | 0,l,_,h=>by
  cases l with
  | nil=>simp
  | cons a r=>have:=h a List.mem_cons_self;omega
 | n+1,l,hd,h=>by
  by_cases hm:n∈l
  ·have h1:=qnG n (l.erase n) (hd.erase n) (fun x hx=>by
    obtain⟨a,c⟩:=hd.mem_erase_iff.1 hx
    have:=h x c;omega)
   rw[List.length_erase_of_mem hm] at h1;omega
  ·have:=qnG n l hd (fun x hx=>by
    have:=h x hx
    have:x≠n:=fun e=>hm (e▸hx)
    omega)
   omega
theorem qgP {n:Nat} {l:List Nat} (hd:l.Nodup) (h:∀ x∈l,x<n) (hl:l.length=n) {j:Nat} (hj:j<n):j∈l:=by
 apply Classical.byContradiction;intro hm
 have:=qnG n (j::l) (List.nodup_cons.2 ⟨hm,hd⟩) (fun x hx=>by
  rcases List.mem_cons.1 hx with rfl | hx
  ·exact hj
  ·exact h x hx)
 simp at this;omega
def qiM (b:List Bool):List Nat:=(List.range b.length).filter fun k=>b[k]?==some true
theorem qeX:∀ (b:List Bool),(qiM b).length=b.count true
 | []=>rfl
 | c::r=>by
  have ih:=qeX r;unfold qiM at ih ⊢
  have e:((fun k=>(c::r)[k]?==some true)∘Nat.succ)=fun k=>r[k]?==some true:=by funext k;simp
  rw[List.length_cons,List.range_succ_eq_map,List.filter_cons,List.filter_map,e];cases c
  ·simp[ih]
  ·simp[ih]
theorem qim {b:List Bool} {k:Nat}:k∈qiM b↔b[k]?=some true:=by
 unfold qiM;rw[List.mem_filter,List.mem_range];exact⟨fun h=>by simpa using h.2,fun h=>⟨(List.getElem?_eq_some_iff.1 h).1,by simpa using h⟩⟩
theorem ql0 {u:List Int} {ev:List Ev} {wh:List Int} {k:Nat} (h:qbd u ev wh k=true):∃ j x,wh[k]?=some ((j:Nat):Int)∧ev[j]?=some x∧x.i=(k:Int)∧u[k]?=some x.w:=by
 unfold qbd at h;split at h
 ·rename_i z c hz hc;rw[Bool.and_eq_true,decide_eq_true_eq] at h;obtain⟨h0,h1⟩:=h;split at h1
  ·rename_i x hx;rw[Bool.and_eq_true,decide_eq_true_eq,decide_eq_true_eq] at h1;exact⟨z.toNat,x,by rw[hz,Int.toNat_of_nonneg h0],hx,h1.1,by rw[hc,h1.2]⟩
  ·cases h1
 ·cases h
section
variable {u fr wh:List Int} {b:List Bool} {ev:List Ev}
theorem VA.used (h:VA u b fr ev wh) {k:Nat} (hk:b[k]?=some true):∃ j x,wh[k]?=some ((j:Nat):Int)∧ev[j]?=some x∧x.i=(k:Int)∧u[k]?=some x.w:=by
 have:=h.wf.at_ k (List.getElem?_eq_some_iff.1 hk).1;unfold whB at this;rw[hk] at this;exact ql0 this
theorem VA.free (h:VA u b fr ev wh) {k:Nat} (hk:b[k]?=some false):wh[k]?=some (-1):=by
 have:=h.wf.at_ k (List.getElem?_eq_some_iff.1 hk).1;unfold whB at this;rw[hk] at this;simpa using this
theorem VA.own (h:VA u b fr ev wh) {j:Nat} {x:Ev} (hx:ev[j]?=some x):Live u b x.i x.w∧wh[x.i.toNat]?=some (j:Int):=by
 have hj:j<ev.length:=(List.getElem?_eq_some_iff.1 hx).1
 let g:Nat→Nat:=fun k=>(wh[k]?.getD 0).toNat
 have hg:∀ k∈qiM b,∃ x,ev[g k]?=some x∧x.i=(k:Int)∧u[k]?=some x.w∧wh[k]?=some ((g k:Nat):Int):=by
  intro k hk;obtain⟨q,y,h1,h2,h3,h4⟩:=h.used (qim.1 hk)
  have e:g k=q:=by simp[g,h1]
  exact⟨y,by rw[e];exact h2,h3,h4,by rw[e];exact h1⟩
 have hnd:((qiM b).map g).Nodup:=by
  have h0:(qiM b).Nodup:=List.nodup_range.filter _;rw[List.nodup_iff_pairwise_ne,List.pairwise_map]
  refine (List.nodup_iff_pairwise_ne.1 h0).imp_of_mem fun {a c} ha hc hac e=>?_
  obtain⟨y,h1,h2,_⟩:=hg a ha;obtain⟨z,k1,k2,_⟩:=hg c hc;rw[e,k1] at h1;cases h1;omega
 have hm:j∈(qiM b).map g:=qgP hnd (fun q hq=>by
  obtain⟨k,hk,rfl⟩:=List.mem_map.1 hq;obtain⟨y,h1,_⟩:=hg k hk
  exact (List.getElem?_eq_some_iff.1 h1).1) (by rw[List.length_map,qeX];exact h.wf.cnt) hj
 obtain⟨k,hk,e⟩:=List.mem_map.1 hm;obtain⟨y,h1,h2,h3,h4⟩:=hg k hk;rw[e] at h1 h4;rw[hx] at h1;cases h1;have hku:k<u.length:=(List.getElem?_eq_some_iff.1 h3).1
 have ek:x.i.toNat=k:=by omega
 exact⟨⟨by omega,by omega,by rw[ek];exact qim.1 hk,by rw[ek];exact h3⟩,by rw[ek];exact h4⟩
theorem VA.inv (h:VA u b fr ev wh):AInv ev.length wh.length ev wh:=by
 refine⟨rfl,rfl,h.ef.ok,fun x hx=>?_⟩;obtain⟨j,hj⟩:=List.mem_iff_getElem?.1 hx;obtain⟨h1,_⟩:=h.own hj;have:=h.lens;exact⟨h1.lo,by have:=h1.lt;omega⟩
theorem qBo {f:FuncId} {e:TypeId} {n:Nat} {xs:List Value} (hx:xs.length=n*5)
 (pth:0<n→Fn f 1 [.ls 0 n] [(0,0,.row e 5 n xs)] (.ls 1 n) 1 [(1,0,.row e 5 n xs)])
 (pe:∀ ad c,Fn f 0 [.pv (.slice (some ad) 0 c)] [] (.ls 0 0) 1 [(0,0,.row e 5 0 [])])
 (pn:∀ c,Pure Tryz.prog f #[.slice none 0 c] (.slice none 0 0)):Fn f 1 [.ls 0 n] [(0,0,.row e 5 n xs)] (.ls 1 n) 1 [(1,0,.row e 5 n xs)]:=by
 rcases Nat.eq_zero_or_pos n with h | h
 ·subst h;obtain rfl:=List.eq_nil_of_length_eq_zero (by simpa using hx);intro w β us hH hd hargs
  match us,hargs with
  | [v],⟨⟨_,a,c,hv⟩,_⟩=>
   have hd1:=hd 1 (Nat.le_refl _)
   cases a with
   | none=>
    subst hv
    refine (pn c w).mono fun e' w' ⟨he,hg⟩=>?_
    have ho:w'.ownsRow w.heap.size e 5 (.slice none 0 0) 0 []:=⟨rfl,Or.inl ⟨rfl,rfl⟩⟩;exact⟨_,β.setG 1 (.slice none 0 0),he,Bl.le_setG hd1.1 hd1.2,⟨Bl.setG_same _ _ _,none,0,rfl⟩,qdd hH hd hg ho (fun v hv=>by cases hv),qcy hd⟩
   | some ad=>
    subst hv
    refine (pe ad c w Bl.no [.slice (some ad) 0 c] (qey w) (fun _ _=>⟨rfl,rfl⟩) ⟨rfl,tI⟩).mono fun e' w' ⟨v,β',he,_,⟨hx,a',c',hv⟩,hh,_⟩=>?_
    obtain⟨u,hu,hr⟩:=hh.rows 0 0 _ _ _ _ rfl;rw[hx] at hu;cases hu;exact⟨_,β.setG 1 v,he,Bl.le_setG hd1.1 hd1.2,⟨Bl.setG_same _ _ _,a',c',hv⟩,qdd hH hd hh.gr (hr.own (Nat.le_refl _)) (fun v hv=>by cases hv),qcy hd⟩
 ·exact pth h
theorem qdb {n:Nat} {xs:List Value} (hx:xs.length=n*5) (hn:n≤1000000):Fn 143 1 [.ls 0 n] [(0,0,.row 61 5 n xs)] (.ls 1 n) 1 [(1,0,.row 61 5 n xs)]:=
 qBo hx (fun h=>qqp h (by omega)) (fun ad c=>qGl) (fun c=>qxS)
theorem qfR {m:Nat} (hm:m≤ev.length) (hn:ev.length≤1000000):Fn 143 1 [.lq 0 5 0 m] [(0,0,qap ev)] (.ls 1 m) 1 [(1,0,.row 61 5 m (qau (ev.take m)))]:=by
 refine qBB ?_ (by omega);rw[Nat.zero_mul,List.drop_zero,qfr];exact qdb (by rw[qa7,List.length_take];congr 1;omega) (by omega)
theorem qdC {l:List Bool} (hn:l.length≤1000000):Fn 140 1 [.ls 0 l.length] [(0,0,zrB l)] (.ls 1 l.length) 1 [(1,0,zrB l)]:=
 qlo (qez l) (fun h=>qoc h (by omega)) (fun ad c=>qCg) (fun c=>qrD)
def qa2 (ev:List Ev) (wh:List Int) (x:Ev):List Ev×List Int:=
 ((upM ev.length (ev++[x]) (wh.set x.i.toNat (ev.length:Int)) ev.length).1,(upM ev.length (ev++[x]) (wh.set x.i.toNat (ev.length:Int)) ev.length).2.1)
theorem qcF {n mm d i:Nat} {ev:List Ev} {wh:List Int} (a:i≤d) (b:i<n) (I:AInv n mm ev wh):AInv n mm (upM d ev wh i).1 (upM d ev wh i).2.1∧(upM d ev wh i).2.2<n:=
 (qdO (Q:=fun _ _ _ _ _ _=>True) (fun _ _ _ _ _ _ _ _ _ _ _ _ _ _ _=>tI) (fun _ _ _ _ _ _ _ _ _ _ _=>tI) (fun _ _ _=>tI) d i ev wh a b I).2
theorem qyd {n mm d i:Nat} {ev:List Ev} {wh:List Int} (a:n≤i+d) (b:i<n) (I:AInv n mm ev wh):AInv n mm (dnM d ev wh i).1 (dnM d ev wh i).2:=
 (qf1 (Q:=fun _ _ _ _ _=>True) (fun _ _ _ _ _ _ _ _ _ _ _ _ _ _=>tI) (fun _ _ _ _ _ _=>tI) d i ev wh a b I).2
theorem qrd (ev:List Ev) (x:Ev):(ev++[x]).set ev.length x=ev++[x]:=by
 rw[List.set_append_right _ _ (by omega),Nat.sub_self];rfl
theorem qg7 {x:Ev} (hI:AInv ev.length wh.length ev wh) (hx:EvOk x) (hi:0≤x.i∧x.i<(wh.length:Int)):AInv (ev.length+1) wh.length (ev++[x]) (wh.set x.i.toNat (ev.length:Int)):=
 ⟨by simp,by simp,fun y hy=>by
  rcases List.mem_append.1 hy with h | h
  ·exact hI.ok y h
  ·rw[List.mem_singleton] at h;subst h;exact hx,fun y hy=>by
  rcases List.mem_append.1 hy with h | h
  ·exact hI.ix y h
  ·rw[List.mem_singleton] at h;subst h;exact hi⟩
theorem qly {u2 f2:List Int} {b2:List Bool} {x:Ev} (hl:ev.length≤999998) (hw:wh.length≤1000000) (hI:AInv ev.length wh.length ev wh) (hx:EvOk x) (hi:0≤x.i∧x.i<(wh.length:Int)) :
 Fn 316 8 [agA u b fr ev wh,.ag [.ls 5 u2.length,.ls 6 b2.length,.ls 7 f2.length],.pv (qaa x)] [(0,0,zrI u),(1,0,zrB b),(2,0,zrI fr),(3,0,qap ev),(4,0,zrI wh),(5,0,zrI u2),(6,0,zrB b2),(7,0,zrI f2)]
  (.ag [.ls 5 u2.length,.ls 6 b2.length,.ls 7 f2.length,.ls 8 (qa2 ev wh x).1.length,.ls 9 (qa2 ev wh x).2.length]) 2 [(8,0,qap (qa2 ev wh x).1),(9,0,zrI (qa2 ev wh x).2)]:=by
 have I:=qg7 hI hx hi;obtain⟨J,_⟩:=qcF (d:=ev.length) (i:=ev.length) (by omega) (by omega) I;have j1:(qa2 ev wh x).1.length=ev.length+1:=J.len;have j2:(qa2 ev wh x).2.length=wh.length:=J.wl;simp only[qap,zrI,j1,j2];have r:=qFV (u2:=u2) (b2:=b2) (f2:=f2) (n:=ev.length+1) (by omega) ev.length ev.length (ev++[x]) (wh.set x.i.toNat (ev.length:Int)) (by omega) (by omega) I;have hd:decide (((ev.length+1:Nat):Int)<0)=false:=decide_eq_false (by omega);refine qyZ (n:=0) (k:=0) (p:=_) (ev3:=(qa2 ev wh x).1) (wh3:=(qa2 ev wh x).2) ?_ (qaY (by omega)) (by omega) (by simp) hi (by omega) (by rw[qrd];exact r);exact qJy (by rw[Int.zero_add];exact qbe (by omega) (by omega)) (by simp) (qaL (by omega)) hd (qGI (z:=((ev.length+1:Nat):Int)) hd (by rw[Int.sub_zero];exact qbe (by omega) (by omega)) (decide_eq_true (by omega)) (by omega) (by omega)) (by omega) (by omega)
def qbM (n:Nat) (ev:List Ev) (wh:List Int) (i:Nat):List Ev×List Int:=dnM n (upM i ev wh i).1 (upM i ev wh i).2.1 (upM i ev wh i).2.2
theorem qbX {n mm i:Nat} {ev:List Ev} {wh:List Int} (b:i<n) (I:AInv n mm ev wh):AInv n mm (qbM n ev wh i).1 (qbM n ev wh i).2:=by
 obtain⟨J,hp⟩:=qcF (d:=i) (Nat.le_refl _) b I;exact qyd (by omega) hp J
def qam (ev:List Ev) (wh:List Int) (k:Nat) (x:Ev):List Ev×List Int:=
 if k<ev.length-1 then match ev[ev.length-1]? with
  | some xl=>qbM (ev.length-1) ((ev.take (ev.length-1)).set k xl) ((wh.set x.i.toNat (-1)).set xl.i.toNat (k:Int)) k
  | none=>([],[])
 else (ev.take (ev.length-1),wh.set x.i.toNat (-1))
theorem qdw {x xl:Ev} {k:Nat} (hI:AInv ev.length wh.length ev wh) (hk:k<ev.length-1) (hl:ev[ev.length-1]?=some xl):AInv (ev.length-1) wh.length ((ev.take (ev.length-1)).set k xl) ((wh.set x.i.toNat (-1)).set xl.i.toNat (k:Int)):=by
 have hm:∀ y∈(ev.take (ev.length-1)).set k xl,y∈ev:=fun y hy=>by
  rcases List.mem_or_eq_of_mem_set hy with h | h
  ·exact List.mem_of_mem_take h
  ·subst h;exact List.mem_of_getElem? hl
 exact⟨by simp,by simp,fun y hy=>hI.ok y (hm y hy),fun y hy=>hI.ix y (hm y hy)⟩
theorem qid {x:Ev} {k:Nat} (h:VA u b fr ev wh) (hx:ev[k]?=some x) :
 Fn 301 5 [agA u b fr ev wh,.pv (iV (k:Int))] [(0,0,zrI u),(1,0,zrB b),(2,0,zrI fr),(3,0,qap ev),(4,0,zrI wh)]
  (.ag [.ls 5 u.length,.ls 6 (b.set x.i.toNat false).length,.ls 7 (fr++[x.i]).length,.ls 8 (qam ev wh k x).1.length,.ls 9 (qam ev wh k x).2.length]) 5
  [(5,0,zrI u),(6,0,zrB (b.set x.i.toNat false)),(7,0,zrI (fr++[x.i])),(8,0,qap (qam ev wh k x).1),(9,0,zrI (qam ev wh k x).2)]:=by
 obtain⟨hlv,hwx⟩:=h.own hx;have hlen:=h.lens;have hI:=h.inv;have hk:k<ev.length:=(List.getElem?_eq_some_iff.1 hx).1;have hg:=qnm h.vd hlv
 have hla:iV (IntKind.i64.wrap ((ev.length:Int)-1))=iV ((ev.length-1:Nat):Int):=by rw[show (ev.length:Int)-1=((ev.length-1:Nat):Int) by omega];exact qbe (by omega) (by omega)
 have hwi:=hI.ix x (List.mem_of_getElem? hx);by_cases hm:k<ev.length-1
 ·obtain⟨xl,hxl⟩:∃ xl,ev[ev.length-1]?=some xl:=⟨_,List.getElem?_eq_getElem (by omega)⟩;have hwl:=hI.ix xl (List.mem_of_getElem? hxl)
  have e:qam ev wh k x=qbM (ev.length-1) ((ev.take (ev.length-1)).set k xl) ((wh.set x.i.toNat (-1)).set xl.i.toNat (k:Int)) k:=by unfold qam;rw[if_pos hm,hxl]
  have I:=qdw (x:=x) hI hm hxl;have J:=qbX hm I;obtain⟨K,hp⟩:=qcF (d:=k) (Nat.le_refl _) hm I;rw[e];simp only[qap,zrI,J.len,J.wl];have r0:=qGx (u2:=u) (b2:=b.set x.i.toNat false) (f2:=fr++[x.i]) (n:=ev.length-1) (by omega) k k _ _ (Nat.le_refl _) hm I;have r1:=qGX (u2:=u) (b2:=b.set x.i.toNat false) (f2:=fr++[x.i]) (n:=ev.length-1) (by omega) (ev.length-1) _ _ _ (by omega) hp K;exact qAq (p:=_) ⟨by omega,by omega⟩ hx hla hg (by omega) (qfR (by omega) (by omega)) (qaY (by omega)) hwi (by omega) (decide_eq_true (by omega)) ⟨by omega,by omega⟩ hxl ⟨by omega,by omega⟩ (by rw[List.length_take];omega) hwl (by rw[List.length_set];omega) r0 r1
 ·have e:qam ev wh k x=(ev.take (ev.length-1),wh.set x.i.toNat (-1)):=by unfold qam;rw[if_neg hm]
  have e1:(ev.take (ev.length-1)).length=ev.length-1:=by rw[List.length_take];omega
  rw[e];have e2:(wh.set x.i.toNat (-1)).length=wh.length:=List.length_set ..;simp only[qap,zrI,e1,e2];exact qyS (b2:=b.set x.i.toNat false) (la:=ev.length-1) ⟨by omega,by omega⟩ hx hla hg (by omega) (qfR (by omega) (by omega)) (qaY (by omega)) hwi (by omega) (decide_eq_false (by omega))
def qaW (ev:List Ev) (wh:List Int) (k:Nat) (x:Ev) (n d:Int):List Ev×List Int:=qbM ev.length (ev.set k ⟨n,d,x.k,x.i,x.w⟩) wh k
theorem qft {x:Ev} {k:Nat} {n d:Int} (hI:AInv ev.length wh.length ev wh) (hx:ev[k]?=some x) (ht:I64 n∧I64 d) (ho:okB n d=true):AInv ev.length wh.length (ev.set k ⟨n,d,x.k,x.i,x.w⟩) wh:=by
 have xo:=hI.ok x (List.mem_of_getElem? hx);refine⟨by simp,rfl,fun y hy=>?_,fun y hy=>?_⟩
 ·rcases List.mem_or_eq_of_mem_set hy with h | h
  ·exact hI.ok y h
  ·subst h;exact⟨ht,ho,xo.k0,xo.k1⟩
 ·rcases List.mem_or_eq_of_mem_set hy with h | h
  ·exact hI.ix y h
  ·subst h;exact hI.ix x (List.mem_of_getElem? hx)
theorem qme (hl:u.length≤1000000∧b.length≤1000000∧fr.length≤1000000∧ev.length≤1000000∧wh.length≤1000000):Fn 312 5 [agA u b fr ev wh] [(0,0,zrI u),(1,0,zrB b),(2,0,zrI fr),(3,0,qap ev),(4,0,zrI wh)] (.ag [.ls 5 u.length,.ls 6 b.length,.ls 7 fr.length,.ls 8 ev.length,.ls 9 wh.length]) 5 [(5,0,zrI u),(6,0,zrB b),(7,0,zrI fr),(8,0,qap ev),(9,0,zrI wh)]:=
 qtJ (qaY hl.1) (qdC hl.2.1) (qaY hl.2.2.1) (qdb (qa7 ev) hl.2.2.2.1) (qaY hl.2.2.2.2)
theorem qke {x:Ev} {k:Nat} {tn td:Int} (h:VA u b fr ev wh) (hx:ev[k]?=some x) (ht:I64 tn∧I64 td) (ho:okB tn td=true) :
 Fn 271 5 [agA u b fr ev wh,.pv (iV (k:Int)),.pv (qab tn td)] [(0,0,zrI u),(1,0,zrB b),(2,0,zrI fr),(3,0,qap ev),(4,0,zrI wh)]
  (.ag [.ls 5 u.length,.ls 6 b.length,.ls 7 fr.length,.ls 8 (qaW ev wh k x tn td).1.length,.ls 9 (qaW ev wh k x tn td).2.length]) 5
  [(5,0,zrI u),(6,0,zrB b),(7,0,zrI fr),(8,0,qap (qaW ev wh k x tn td).1),(9,0,zrI (qaW ev wh k x tn td).2)]:=by
 have hlen:=h.lens;have hk:k<ev.length:=(List.getElem?_eq_some_iff.1 hx).1;have I:=qft h.inv hx ht ho;have J:=qbX hk I;obtain⟨K,hp⟩:=qcF (d:=k) (Nat.le_refl _) hk I;have j1:(qaW ev wh k x tn td).1.length=ev.length:=J.len;have j2:(qaW ev wh k x tn td).2.length=wh.length:=J.wl;simp only[qap,zrI,j1,j2];have r0:=qID (u:=u) (b:=b) (fr:=fr) (n:=ev.length) (by omega) k k _ _ (Nat.le_refl _) hk I;have r1:=qFL (u:=u) (b:=b) (fr:=fr) (n:=ev.length) (by omega) ev.length _ _ _ (by omega) hp K;exact qx9 (p:=_) (qme ⟨by omega,by omega,by omega,by omega,by omega⟩) ⟨by omega,by omega⟩ hx hk r0 r1
end
end Go.Proofs.YtkckcgpmnipnaaaGreat

namespace Go.Proofs.YtkckcgpmnipnaaaGreat
set_option maxRecDepth 100000
open Go.RowKit
section
variable {u fr wh:List Int} {b:List Bool} {ev:List Ev}
structure ASm (u:List Int) (b:List Bool) (fr:List Int) (ev:List Ev) (wh:List Int):Prop where
 lu:u.length≤210
 lb:b.length≤210
 lf:fr.length≤210
 le:ev.length≤210
 lw:wh.length≤210
 i:∀ x∈ev,EvI x
theorem VA.sm (h:VA u b fr ev wh):ASm u b fr ev wh:=by
 have:=h.lens;exact⟨by omega,by omega,by omega,by omega,by omega,fun x hx=>(h.ef.ok x hx).i⟩
theorem qx4 (s:ASm u b fr ev wh) (h:¬ VA u b fr ev wh):Fn 177 5 [agA u b fr ev wh] (agP u b fr ev wh) (.pv (iV 8)) 0 []:=qlA (by have:=s.lf;omega) (by have:=s.le;omega) s.i h
end
end Go.Proofs.YtkckcgpmnipnaaaGreat

namespace Go.Proofs.YtkckcgpmnipnaaaGreat
set_option maxRecDepth 100000
open Go.RowKit
section
variable {u fr wh:List Int} {b:List Bool} {ev:List Ev}
def cnE (ev:List Ev) (z:Int):Int:=if 0≤z∧z≤1000000 then (if (∃ m∈ev,m.k=z) then 14 else 0) else 2
abbrev cxT (ev:List Ev) (k:Nat):List (Nat×SV):=[(0,.ls 3 ev.length),(1,.pc 336 [.pp 6 0]),(7,.pv (iV (ev.length:Int))),(8,.pv (iV (k:Int)))]
theorem qx6 {z:Int} (hl:ev.length≤1000000) (h:∀ m∈ev,m.k≠z):∀ (d k:Nat),k+d=ev.length→Rl 5 7 346 0 19 7 (cxT ev k) [(6,0,.pv (iV z)),(3,0,qap ev)] (.exit 0) [] []:=by
 intro d
 induction d with
 | zero=>intro k hk;exact qBS (decide_eq_false (by omega))
 | succ d ih=>
  intro k hk;have hx:ev[k]?=some ev[k]:=List.getElem?_eq_getElem (by omega);exact qn6 hx (by omega) (decide_eq_true (by omega)) (by simpa using h _ (List.getElem_mem _)) (qaL (by omega)) (ih (k+1) (by omega))
theorem qyv {z:Int} (hl:ev.length≤1000000):∀ (d k:Nat),k+d=ev.length→(∃ j m,k≤j∧ev[j]?=some m∧m.k=z)→∃ q:Nat,Rl 5 7 346 0 19 7 (cxT ev k) [(6,0,.pv (iV z)),(3,0,qap ev)] .ret [(4,.pv (iV (q:Int)))] []:=by
 intro d
 induction d with
 | zero=>intro k hk ⟨j,m,a,c,_⟩;have:=(List.getElem?_eq_some_iff.1 c).1;omega
 | succ d ih=>
  intro k hk ⟨j,m,a,c,e⟩;have hx:ev[k]?=some ev[k]:=List.getElem?_eq_getElem (by omega);by_cases h1:ev[k].k=z
  ·exact⟨k,qDv hx (by omega) (decide_eq_true (by omega)) (by simpa using h1)⟩
  ·obtain⟨q,r⟩:=ih (k+1) (by omega) ⟨j,m,by
    rcases Nat.lt_or_ge k j with g | g
    ·exact g
    ·have e':k=j:=by omega
     subst e';rw[hx] at c
     exact (h1 (by rw[Option.some.inj c];exact e)).elim,c,e⟩
   exact⟨q,qn6 hx (by omega) (decide_eq_true (by omega)) (by simpa using h1) (qaL (by omega)) r⟩
theorem qeR (hl:ev.length≤1000000) (z:Int):Fn 314 5 [agA u b fr ev wh,.pv (iV z)] (agP u b fr ev wh) (.pv (iV (cnE ev z))) 0 []:=by
 have hn:=qg1 z;unfold cnE;by_cases h1:0≤z∧z≤1000000
 ·rw[decide_eq_true h1] at hn;rw[if_pos h1];by_cases h2:∃ m∈ev,m.k=z
  ·rw[if_pos h2];obtain⟨m,hm,e⟩:=h2;obtain⟨j,hj⟩:=List.mem_iff_getElem?.1 hm;obtain⟨q,r⟩:=qyv (z:=z) hl ev.length 0 (by omega) ⟨j,m,by omega,hj,e⟩;exact qsY hn r (decide_eq_true (by omega))
  ·rw[if_neg h2];exact qF4 hn (qx6 hl (fun m hm e=>h2 ⟨m,hm,e⟩) ev.length 0 (by omega))
 ·rw[decide_eq_false h1] at hn;rw[if_neg h1];exact qAc hn
theorem qdZ {hi hw:Int} (h:Vd u b fr) (hl:Live u b hi hw):Fn 270 5 [agA u b fr ev wh,.pv (qaK hi hw)] (agP u b fr ev wh) (.pv (iV 0)) 0 []:=qDP (qwQ h hl)
theorem VA.find {hi hw:Int} (h:VA u b fr ev wh) (hl:Live u b hi hw):∃ j x,wh[hi.toNat]?=some ((j:Nat):Int)∧ev[j]?=some x∧x.i=hi∧x.w=hw:=by
 obtain⟨j,x,h1,h2,h3,h4⟩:=h.used hl.used;have:=hl.lo;refine⟨j,x,h1,h2,by omega,?_⟩;have h5:=hl.use;rw[h4] at h5;exact Option.some.inj h5
abbrev evZ:Value:=.agg #[iV 0,iV 0,iV 0,iV 0,iV 0]
abbrev agZ:Value:=.agg #[.slice none 0 0,.slice none 0 0,.slice none 0 0,.slice none 0 0,.slice none 0 0]
theorem qm5 {hi hw:Int} {j:Nat} {x:Ev} (h:VA u b fr ev wh) (hl:Live u b hi hw) (hj:wh[hi.toNat]?=some (j:Int)) (hx:ev[j]?=some x):Fn 300 5 [agA u b fr ev wh,.pv (qaK hi hw)] (agP u b fr ev wh) (.pv (.tuple #[qaa x,iV 0])) 0 []:=by
 have:=(List.getElem?_eq_some_iff.1 hj).1;have:=(List.getElem?_eq_some_iff.1 hx).1;have:=hl.lo;exact qHJ (qcX h) (qdZ h.vd hl) (qH7 (by decide) (by decide)) (by omega) hj (by omega) hx
abbrev qAG (ev3:List Ev) (u2:List Int) (b2:List Bool) (f2 wh3:List Int):S1:=.ag [.ls 5 u2.length,.ls 6 b2.length,.ls 7 f2.length,.ls 8 ev3.length,.ls 9 wh3.length]
abbrev qfO (ev3:List Ev) (u2:List Int) (b2:List Bool) (f2 wh3:List Int):List (Nat×Nat×SV):=[(5,0,zrI u2),(6,0,zrB b2),(7,0,zrI f2),(8,0,qap ev3),(9,0,zrI wh3)]
theorem qi5 {hi hw:Int} {j:Nat} {x:Ev} (h:VA u b fr ev wh) (hl:Live u b hi hw) (hj:wh[hi.toNat]?=some (j:Int)) (hx:ev[j]?=some x):Fn 241 5 [agA u b fr ev wh,.pv (qaK hi hw)] (agP u b fr ev wh)
 (.tu [qAG (qam ev wh j x).1 u (b.set x.i.toNat false) (fr++[x.i]) (qam ev wh j x).2,.one (.pv (qaa x)),.one (.pv (iV 0))]) 5 (qfO (qam ev wh j x).1 u (b.set x.i.toNat false) (fr++[x.i]) (qam ev wh j x).2):=by
 have:=(List.getElem?_eq_some_iff.1 hj).1;have:=hl.lo;exact qIr (qm5 h hl hj hx) (by omega) hj (qid h hx)
theorem qjy {hi hw tn td:Int} {j:Nat} {x:Ev} (ht:I64 tn∧I64 td) (h0:okB tn td=true) (h:VA u b fr ev wh) (hl:Live u b hi hw) (hj:wh[hi.toNat]?=some (j:Int)) (hx:ev[j]?=some x):Fn 218 5 [agA u b fr ev wh,.pv (qaK hi hw),.pv (qab tn td)] (agP u b fr ev wh)
 (.tu [qAG (qaW ev wh j x tn td).1 u b fr (qaW ev wh j x tn td).2,.one (.pv (iV 0))]) 5 (qfO (qaW ev wh j x tn td).1 u b fr (qaW ev wh j x tn td).2):=by
 have:=(List.getElem?_eq_some_iff.1 hj).1;have:=hl.lo;exact qH1 (qcX h) (qcG ht.1 ht.2 h0) (qdZ h.vd hl) (qv4 (by decide) (by decide) (by decide)) (by omega) hj (qke h hx ht h0)
abbrev psZ (e:Int):SV:=.pv (.tuple #[agZ,qaK 0 0,iV e])
theorem qmY {tn td z:Int} (ht:I64 tn∧I64 td) (h0:okB tn td=true) (h:VA u b fr ev wh) (hz:cnE ev z=0) (hk:qbx u b fr=none):Fn 272 5 [agA u b fr ev wh,.pv (qab tn td),.pv (iV z)] (agP u b fr ev wh) (psZ 18) 0 []:=by
 have hn:=qeR (u:=u) (b:=b) (fr:=fr) (ev:=ev) (wh:=wh) (by have:=h.lens;omega) z;rw[hz] at hn;exact qxz (qcX h) (qcG ht.1 ht.2 h0) hn (qv4 (by decide) (by decide) (by decide)) (qn8 h.vd hk)
theorem qjM {u2 f2:List Int} {b2:List Bool} {hi hw:Int} (h:Vd u b fr) (hk:qbx u b fr=some (u2,b2,f2,hi,hw)):0≤hi∧hi<(u.length:Int):=by
 obtain⟨y,h1,_⟩:=qbp hk;obtain⟨e,_,_⟩:=qbq h1;exact h.rng hi (by rw[e];simp)
theorem ql4 {tn td z:Int} {u2 f2:List Int} {b2:List Bool} {hi hw:Int} (ht:I64 tn∧I64 td) (h0:okB tn td=true) (h:VA u b fr ev wh) (hz:cnE ev z=0) (hk:qbx u b fr=some (u2,b2,f2,hi,hw)) :
 Fn 272 5 [agA u b fr ev wh,.pv (qab tn td),.pv (iV z)] (agP u b fr ev wh)
  (.tu [qAG (qa2 ev wh ⟨tn,td,z,hi,hw⟩).1 u2 b2 f2 (qa2 ev wh ⟨tn,td,z,hi,hw⟩).2,.one (.pv (qaK hi hw)),.one (.pv (iV 0))]) 5 (qfO (qa2 ev wh ⟨tn,td,z,hi,hw⟩).1 u2 b2 f2 (qa2 ev wh ⟨tn,td,z,hi,hw⟩).2):=by
 have hlen:=h.lens;have hn:=qeR (u:=u) (b:=b) (fr:=fr) (ev:=ev) (wh:=wh) (by omega) z;rw[hz] at hn
 have hzr:0≤z∧z≤1000000:=by
  apply Classical.byContradiction;intro hne;unfold cnE at hz;rw[if_neg hne] at hz;cases hz
 have hin:=qjM h.vd hk;exact qGi (qcX h) (qcG ht.1 ht.2 h0) hn (qv4 (by decide) (by decide) (by decide)) (qoj h.vd hk) (qly (x:=⟨tn,td,z,hi,hw⟩) (by omega) (by omega) h.inv ⟨ht,h0,hzr.1,hzr.2⟩ ⟨hin.1,by have:=hin.2;simp only;omega⟩)
end
end Go.Proofs.YtkckcgpmnipnaaaGreat
