/-
  Joined: Si, Zb, Rs, Rt, Rw. Conditions: none.
-/
import Derived.Lib.SortBridge
import Derived.Test.YtkckcgpmnipnaaaGreatSi0
import Derived.Test.YtkckcgpmnipnaaaGreatW17
import Derived.Test.YtkckcgpmnipnaaaGreatW16
namespace Go.Proofs.YtkckcgpmnipnaaaGreat
set_option maxRecDepth 100000
open Go.RowKit Go.Sort
theorem qlH {w:World} {g:Nat} {cur:Array Value} {e:TypeId} {fr:Nat×Nat} (hg:w.heap[g]?=some (.cells cur e fr)) (F:Array Int) :
 (putRow (Value.int .i64) w g 0 F).heap[g]?=some (.cells (putCells (Value.int .i64) 0 F cur) e fr):=by
 unfold putRow mapBlock;simp only[Array.getElem?_modify,if_true,hg,Option.map_some,onCells]
theorem ql7 (w:World) (g:Nat) (F:Array Int) {k:Nat} (h:k≠g):(putRow (Value.int .i64) w g 0 F).heap[k]?=w.heap[k]?:=by
 unfold putRow mapBlock;simp only[Array.getElem?_modify,if_neg (fun e:g=k=>h e.symm)]
theorem qge (F:List Int) (cur:Array Value) (h:F.length≤cur.size):(putCells (Value.int .i64) 0 F.toArray cur).toList.take F.length=ziV F:=by
 apply List.ext_getElem?;intro i;rw[List.getElem?_take];by_cases hi:i<F.length
 ·rw[if_pos hi];unfold putCells ziV;simp only[Array.getElem?_toList,Array.getElem?_mapIdx,List.getElem?_map];rw[Array.getElem?_eq_getElem (show i<cur.size by omega),Option.map_some,if_pos (by simp;omega),Nat.sub_zero,getElem!_pos F.toArray i (by simpa using hi),List.getElem?_eq_getElem hi];simp
 ·rw[if_neg hi,List.getElem?_eq_none (by rw[qbY];omega)]
theorem qgj (F cur):(putCells (Value.int .i64) 0 F cur).size=cur.size:=by unfold putCells;simp
def sortI (g:List Int):List Int:=g.mergeSort fun x y=>decide (x≤y)
theorem qeu (g:List Int):(sortI g).Perm g:=List.mergeSort_perm _ _
theorem qcW (g:List Int):(sortI g).length=g.length:=(qeu g).length_eq
theorem qtd (g:List Int):(sortI g).Pairwise (fun x y=>x≤y):=by
 have:=List.pairwise_mergeSort (le:=fun x y:Int=>decide (x≤y)) (fun a b c h1 h2=>by simp at *;omega) (fun a b=>by simp;omega) g
 exact this.imp fun h=>by simpa using h
theorem qqm {β:Bl} {n:Nat} {us:List Value} (h:SV.isl β [.ls 0 n] us):∃ v,us=[v]∧β.g 0=some v∧∃ a c,v=.slice a n c:=by
 match us,h with
 | [v0],⟨⟨h0,h1⟩,_⟩=>exact⟨v0,rfl,h0,h1⟩
theorem qib (l:List Int) (hn:l.length≤1000000):FnM Tryz.prog 182 1 [.ls 0 l.length] [(0,0,zrI l)] (.tuple #[]) 0 ⟨3,1,l.length,ziV l⟩ (ziV (sortI l)):=by
 intro w β us base u hH hdom hargs hu hown hbase hap;obtain⟨v,rfl,hv0,a0,c0,hv⟩:=qqm hargs;rw[hu] at hv0;cases hv0;subst hv
 rcases Nat.eq_zero_or_pos l.length with h0 | h0
 ·have hl:l=[]:=List.eq_nil_of_length_eq_zero h0;subst hl
  refine (Any.slices_Sort_int_none Tryz.sortI a0 c0 w).mono fun e w' ⟨he,hw⟩=>?_
  subst hw
  have e0:ziV (sortI [])=ziV []:=by simp[sortI]
  have hown':=hown;rw[← e0] at hown';exact⟨he,⟨⟨rfl,rfl,rfl,Nat.le_refl _,(fun _ _ _=>rfl)⟩,(fun _ _=>rfl),Nat.le_refl _⟩,hown',fun y hy=>by simp[sortI,ziV] at hy⟩
 ·obtain⟨hlen,hnil | ⟨g,cap,cur,e1,hg,hgc,hnc,hcm,hcs,htk⟩⟩:=hown
  ·have:=hnil.2
   dsimp only at this
   omega
  cases e1
  dsimp only at hlen hgc hnc hcs htk
  have hgs:g<w.heap.size:=(Array.getElem?_eq_some_iff.1 hgc).1
  have hHold:Go.Sort.Holds (Value.int .i64) w g 0 l.toArray:=by
   intro j hj
   have hj':j<l.length:=by simpa using hj
   have h1:cur[j]?=some (iV (l.toArray[j]!)):=by
    have h2:(cur.toList.take (l.length*1))[j]?=(ziV l)[j]?:=by rw[htk]
    rw[List.getElem?_take,if_pos (by omega),Array.getElem?_toList] at h2;rw[h2,getElem!_pos _ j hj];simp[ziV,hj']
   constructor
   ·simp only[World.cell?,hgc,Nat.zero_add,Option.isSome_none,id];exact h1
   ·simp[World.frozen?,hgc]
  have hcon:=calls_of_every_depth fun D=>AnyS.slices_Sort_int_alone Tryz.sortI D g 0 c0 l w hHold hgs (by omega)
  refine Calls.mono (show Calls Tryz.prog 182 _ w _ from hcon) fun e w' ⟨he,n,os,hw⟩=>?_
  have hml:(sortI l).length=l.length:=qcW l;have hw':w'=grow (putRow (Value.int .i64) (Sort.ahead w n) g 0 (sortI l).toArray) os:=hw;clear hw
  have hsz:(putRow (Value.int .i64) (Sort.ahead w n) g 0 (sortI l).toArray).heap.size=w.heap.size:=by rw[size_putRow];rfl
  have hblk:∀ k,k<w.heap.size→w'.heap[k]?=(putRow (Value.int .i64) (Sort.ahead w n) g 0 (sortI l).toArray).heap[k]?:=fun k hk=>by
   rw[hw'];unfold Sort.grow;exact Array.getElem?_append_left (by rw[hsz];exact hk)
  have hself:=(hblk g hgs).trans (qlH (w:=Sort.ahead w n) (fr:=(0,0)) hgc _);refine⟨he,⟨⟨?_,?_,?_,?_,?_⟩,?_,?_⟩,⟨?_,.inr ⟨g,c0,_,rfl,hg,hself,hnc,hcm,?_,?_⟩⟩,qlf _⟩
  ·rw[hw'];rfl
  ·rw[hw'];rfl
  ·rw[hw'];rfl
  ·rw[hw',size_grow,hsz];omega
  ·intro k hk hkr;rw[hblk k hk]
   exact ql7 (Sort.ahead w n) g _ fun e=>hkr (by rw[e];rfl)
  ·intro a ha;rw[hw',frozen?_grow _ _ _ (by rw[hsz];exact ha),frozen?_putRow];rfl
  ·rw[hw'];show w.drawn≤w.drawn+n;omega
  ·rw[qbY,hml,Nat.mul_one]
  ·rw[qgj];exact hcs
  ·dsimp only
   rw[Nat.mul_one,← hml,qge _ _ (by rw[hcs,hml];omega)]
end Go.Proofs.YtkckcgpmnipnaaaGreat

namespace Go.Proofs.YtkckcgpmnipnaaaGreat
set_option maxRecDepth 100000
open Go.RowKit
variable {x:Int} {u fr:List Int} {b g g1:List Bool} {k:Nat}
theorem qdg (n:Nat):some (SV.row 4 1 n (qdR [Value.bool false] n))=some (SV.row 4 1 n (zbV (List.replicate n false))):=by rw[qtZ]
theorem qBM (h1:decide (1≤x)=false):Pure Tryz.prog 213 #[iV x] (.bool false):=
 qaJ (args:=[iV x]) 200 [.t false] (A2 rfl h1 tI) (by kernel_rfl)
theorem qBq (h1:decide (1≤x)=true) (h2:decide (x≤200)=false):Pure Tryz.prog 213 #[iV x] (.bool false):=
 qaJ (args:=[iV x]) 200 [.t true,.t false] (A3 rfl h1 h2 tI) (by kernel_rfl)
theorem qzO (h1:decide (1≤x)=true) (h2:decide (x≤200)=true):Pure Tryz.prog 213 #[iV x] (.bool true):=
 qaJ (args:=[iV x]) 200 [.t true,.t true] (A3 rfl h1 h2 tI) (by kernel_rfl)
abbrev qgd (b:List Bool) (fr:List Int) (u:List Int):HpL:=[(0,0,zrI u),(1,0,zrB b),(2,0,zrI fr)]
theorem qy9 (h1:decide (0≤x)=false) :
 Fn 320 3 [.ag [.ls 0 u.length,.ls 1 b.length,.ls 2 fr.length],.pv (iV (x))] (qgd b fr u) (.pv (.bool false)) 0 []:=
 Fz [] [.t false]
  tI (Ai h1 tI)
theorem qwR (h1:decide (0≤x)=true) (h2:decide (x<(b.length:Int))=false) :
 Fn 320 3 [.ag [.ls 0 u.length,.ls 1 b.length,.ls 2 fr.length],.pv (iV (x))] (qgd b fr u) (.pv (.bool false)) 0 []:=
 Fz [] [.t true,.t false]
  tI (A2 h1 h2 tI)
theorem qxi (h1:decide (0≤x)=true) (h2:decide (x<(b.length:Int))=true) :
 Fn 320 3 [.ag [.ls 0 u.length,.ls 1 b.length,.ls 2 fr.length],.pv (iV (x))] (qgd b fr u) (.pv (.bool true)) 0 []:=
 Fz [] [.t true,.t true]
  tI (A2 h1 h2 tI)
abbrev qo8 (b:List Bool) (fr:List Int) (u:List Int):HpL:=[(3,0,.ls 0 u.length),(3,1,.ls 1 b.length),(3,2,.ls 2 fr.length),(0,0,zrI u),(1,0,zrB b),(2,0,zrI fr)]
abbrev qxe (b:List Bool) (k:Nat):TmL:=[(1,.pp 3 0),(7,.ls 1 b.length),(8,.pv (iV (b.length:Int))),(9,.pv (iV (k:Int)))]
theorem qir (hb:b[k]?=some true) (hu:u[k]?=some x) (hib:0≤(k:Int)∧(k:Int)<(b.length:Int)) (hiu:0≤(k:Int)∧(k:Int)<(u.length:Int)) (hlt:decide ((k:Int)<(b.length:Int))=true) (h1:decide (x<1)=false) (h2:decide (x>1000000)=false) (hs:iV (IntKind.i64.wrap ((k:Int)+1))=iV (((k+1:Nat):Int))) {e:Exit} {tm2:TmL} {hp2:HpL}
 (r:Rl 3 3 277 0 31 4 ([(1,.pp 3 0),(7,.ls 1 b.length),(8,.pv (iV (b.length:Int))),(9,.pv (iV ((k+1:Nat):Int)))]) (qo8 b fr u) e tm2 hp2):Rl 3 3 277 0 31 4 (qxe b k) (qo8 b fr u) e tm2 hp2:=
 RunsL.next [] 300 [.t true,.r (.bool true),.r (iV x),.t false,.r (iV x),.t false,Re hs]
  (Ro (A9 hlt hib (qcM hb) hiu (qbb hu) h1 hiu (qbb hu) h2 (Ai hs tI))) r
theorem qmO (hb:b[k]?=some true) (hu:u[k]?=some x) (hib:0≤(k:Int)∧(k:Int)<(b.length:Int)) (hiu:0≤(k:Int)∧(k:Int)<(u.length:Int)) (hlt:decide ((k:Int)<(b.length:Int))=true) (h1:decide (x<1)=true):Rl 3 3 277 0 31 4 (qxe b k) (qo8 b fr u) (.ret) ([(2,.pv (.bool false))]) ([]):=
 RunsL.stop [] 300 [.t true,.r (.bool true),.r (iV x),.t true] (fun h=>by cases h)
  (Ro (A6 hlt hib (qcM hb) hiu (qbb hu) h1 tI))
theorem qmR (hb:b[k]?=some true) (hu:u[k]?=some x) (hib:0≤(k:Int)∧(k:Int)<(b.length:Int)) (hiu:0≤(k:Int)∧(k:Int)<(u.length:Int)) (hlt:decide ((k:Int)<(b.length:Int))=true) (h1:decide (x<1)=false) (h2:decide (x>1000000)=true):Rl 3 3 277 0 31 4 (qxe b k) (qo8 b fr u) (.ret) ([(2,.pv (.bool false))]) ([]):=
 RunsL.stop [] 300 [.t true,.r (.bool true),.r (iV x),.t false,.r (iV x),.t true] (fun h=>by cases h)
  (Ro (A9 hlt hib (qcM hb) hiu (qbb hu) h1 hiu (qbb hu) h2 tI))
theorem qhN (hb:b[k]?=some false) (hu:u[k]?=some x) (hib:0≤(k:Int)∧(k:Int)<(b.length:Int)) (hiu:0≤(k:Int)∧(k:Int)<(u.length:Int)) (hlt:decide ((k:Int)<(b.length:Int))=true) (h1:decide (x<0)=false) (h2:decide (x>1000000)=false) (hs:iV (IntKind.i64.wrap ((k:Int)+1))=iV (((k+1:Nat):Int))) {e:Exit} {tm2:TmL} {hp2:HpL}
 (r:Rl 3 3 277 0 31 4 ([(1,.pp 3 0),(7,.ls 1 b.length),(8,.pv (iV (b.length:Int))),(9,.pv (iV ((k+1:Nat):Int)))]) (qo8 b fr u) e tm2 hp2):Rl 3 3 277 0 31 4 (qxe b k) (qo8 b fr u) e tm2 hp2:=
 RunsL.next [] 300 [.t true,.r (.bool false),.r (iV x),.t false,.r (iV x),.t false,Re hs]
  (Ro (A9 hlt hib (qcM hb) hiu (qbb hu) h1 hiu (qbb hu) h2 (Ai hs tI))) r
theorem qj8 (hb:b[k]?=some false) (hu:u[k]?=some x) (hib:0≤(k:Int)∧(k:Int)<(b.length:Int)) (hiu:0≤(k:Int)∧(k:Int)<(u.length:Int)) (hlt:decide ((k:Int)<(b.length:Int))=true) (h1:decide (x<0)=true):Rl 3 3 277 0 31 4 (qxe b k) (qo8 b fr u) (.ret) ([(2,.pv (.bool false))]) ([]):=
 RunsL.stop [] 300 [.t true,.r (.bool false),.r (iV x),.t true] (fun h=>by cases h)
  (Ro (A6 hlt hib (qcM hb) hiu (qbb hu) h1 tI))
theorem qj3 (hb:b[k]?=some false) (hu:u[k]?=some x) (hib:0≤(k:Int)∧(k:Int)<(b.length:Int)) (hiu:0≤(k:Int)∧(k:Int)<(u.length:Int)) (hlt:decide ((k:Int)<(b.length:Int))=true) (h1:decide (x<0)=false) (h2:decide (x>1000000)=true):Rl 3 3 277 0 31 4 (qxe b k) (qo8 b fr u) (.ret) ([(2,.pv (.bool false))]) ([]):=
 RunsL.stop [] 300 [.t true,.r (.bool false),.r (iV x),.t false,.r (iV x),.t true] (fun h=>by cases h)
  (Ro (A9 hlt hib (qcM hb) hiu (qbb hu) h1 hiu (qbb hu) h2 tI))
theorem qAE (hge:decide ((k:Int)<(b.length:Int))=false):Rl 3 3 277 0 31 4 (qxe b k) (qo8 b fr u) (.exit 0) ([]) ([]):=
 RunsL.stop [] 300 [.t false] (fun h=>by cases h)
  (Ro (Ai hge tI))
theorem qHT (r0:Rl 3 3 277 0 31 4 ([(1,.pp 3 0),(7,.ls 1 b.length),(8,.pv (iV (b.length:Int))),(9,.pv (iV ((0:Nat):Int)))]) (qo8 b fr u) (.ret) ([(2,.pv (.bool false))]) ([])) :
 Fn 277 3 [.ag [.ls 0 u.length,.ls 1 b.length,.ls 2 fr.length]] (qgd b fr u) (.pv (.bool false)) 0 []:=
 Fz [] [Lf r0]
  tI (Lo r0 [] tI)
theorem qz7 (r0:Rl 3 3 277 0 31 4 ([(1,.pp 3 0),(7,.ls 1 b.length),(8,.pv (iV (b.length:Int))),(9,.pv (iV ((0:Nat):Int)))]) (qo8 b fr u) (.exit 0) ([]) ([])) :
 Fn 277 3 [.ag [.ls 0 u.length,.ls 1 b.length,.ls 2 fr.length]] (qgd b fr u) (.pv (.bool true)) 0 []:=
 Fz [] [Lf r0]
  tI (Lo r0 [] tI)
abbrev qla (b:List Bool) (fr:List Int) (g:List Bool) (u:List Int):HpL:=[(3,0,.ls 0 u.length),(3,1,.ls 1 b.length),(3,2,.ls 2 fr.length),(5,0,.ls 4 b.length),(0,0,zrI u),(1,0,zrB b),(2,0,zrI fr),(4,0,.row 4 1 b.length (zbV g))]
abbrev qHE (b:List Bool) (k:Nat):TmL:=[(1,.pp 3 0),(3,.pp 5 0),(12,.ls 1 b.length),(13,.pv (iV (b.length:Int))),(14,.pv (iV (k:Int)))]
theorem qiF (hb:b[k]?=some true) (hib:Bd k b.length) (hg:k<g.length) (hlt:Dt ((k:Int)<(b.length:Int))) (hs:iV (IntKind.i64.wrap ((k:Int)+1))=iV (((k+1:Nat):Int))) {e:Exit} {tm2:TmL} {hp2:HpL}
 (r:Rl 3 3 278 0 36 6 ([(1,.pp 3 0),(3,.pp 5 0),(12,.ls 1 b.length),(13,.pv (iV (b.length:Int))),(14,.pv (iV ((k+1:Nat):Int)))]) ([(3,0,.ls 0 u.length),(3,1,.ls 1 b.length),(3,2,.ls 2 fr.length),(5,0,.ls 4 b.length),(0,0,zrI u),(1,0,zrB b),(2,0,zrI fr),(4,0,.row 4 1 b.length (zbV (g.set k false)))]) e tm2 hp2):Rl 3 3 278 0 36 6 (qHE b k) (qla b fr g u) e tm2 hp2:=
 RunsL.next [] 300 [.t true,.r (.bool true),.k,.w (zbV (g.set k false)),Re hs]
  (Ro (A7 hlt hib (qcM hb) hib (qug g k false hg) (qeU g k hg) hs tI)) r
theorem qg0 (hb:b[k]?=some false) (hib:Bd k b.length) (hg:k<g.length) (hlt:Dt ((k:Int)<(b.length:Int))) (hs:iV (IntKind.i64.wrap ((k:Int)+1))=iV (((k+1:Nat):Int))) {e:Exit} {tm2:TmL} {hp2:HpL}
 (r:Rl 3 3 278 0 36 6 ([(1,.pp 3 0),(3,.pp 5 0),(12,.ls 1 b.length),(13,.pv (iV (b.length:Int))),(14,.pv (iV ((k+1:Nat):Int)))]) ([(3,0,.ls 0 u.length),(3,1,.ls 1 b.length),(3,2,.ls 2 fr.length),(5,0,.ls 4 b.length),(0,0,zrI u),(1,0,zrB b),(2,0,zrI fr),(4,0,.row 4 1 b.length (zbV (g.set k true)))]) e tm2 hp2):Rl 3 3 278 0 36 6 (qHE b k) (qla b fr g u) e tm2 hp2:=
 RunsL.next [] 300 [.t true,.r (.bool false),.k,.w (zbV (g.set k true)),Re hs]
  (Ro (A7 hlt hib (qcM hb) hib (qug g k true hg) (qeU g k hg) hs tI)) r
theorem qAA (hge:decide ((k:Int)<(b.length:Int))=false):Rl 3 3 278 0 36 6 (qHE b k) (qla b fr g u) (.exit 0) ([(1,.pp 3 0),(3,.pp 5 0)]) (qla b fr g u):=
 RunsL.stop [] 300 [.t false] (fun h=>by cases h)
  (Ro (Ai hge tI))
abbrev qE2 (fr:List Int) (k:Nat):TmL:=[(0,.ls 2 fr.length),(1,.pc 319 [.pp 3 0,.pp 5 0]),(7,.pv (iV (fr.length:Int))),(8,.pv (iV (k:Int)))]
theorem qDa (hf:fr[k]?=some x) (hif:Bd k fr.length) (hlt:Dt ((k:Int)<(fr.length:Int))) (hh:Fn 320 3 [.ag [.ls 0 u.length,.ls 1 b.length,.ls 2 fr.length],.pv (iV (x))] (qgd b fr u) (.pv (.bool false)) 0 []):Rl 3 6 340 0 19 6 (qE2 fr k) (qla b fr g u) (.ret) ([(4,.pv (iV (k:Int)))]) (qla b fr g u):=
 RunsL.stop [] 300 [.t true,.r (iV x),.k,Cf hh [0,1,2],.k] (fun h=>by cases h)
  (Ro (A3 hlt hif (qbb hf) (Co hh [0,1,2] 6 tI)))
theorem qx3 (hf:fr[k]?=some x) (hif:Bd k fr.length) (hlt:Dt ((k:Int)<(fr.length:Int))) (hh:Fn 320 3 [.ag [.ls 0 u.length,.ls 1 b.length,.ls 2 fr.length],.pv (iV (x))] (qgd b fr u) (.pv (.bool true)) 0 []) (hg:g[x.toNat]?=some false) (hix:0≤x∧x<(b.length:Int)):Rl 3 6 340 0 19 6 (qE2 fr k) (qla b fr g u) (.ret) ([(4,.pv (iV (k:Int)))]) (qla b fr g u):=
 RunsL.stop [] 300 [.t true,.r (iV x),.k,Cf hh [0,1,2],.k,.r (.bool false),.k] (fun h=>by cases h)
  (Ro (A3 hlt hif (qbb hf) (Co hh [0,1,2] 6 (A2 hix (qhY hg) tI))))
theorem qxX (hf:fr[k]?=some x) (hif:Bd k fr.length) (hlt:Dt ((k:Int)<(fr.length:Int))) (hh:Fn 320 3 [.ag [.ls 0 u.length,.ls 1 b.length,.ls 2 fr.length],.pv (iV (x))] (qgd b fr u) (.pv (.bool true)) 0 []) (hg:g[x.toNat]?=some true) (hix:0≤x∧x<(b.length:Int)) (hgl:x.toNat<g.length) (hs:iV (IntKind.i64.wrap ((k:Int)+1))=iV (((k+1:Nat):Int))) {e:Exit} {tm2:TmL} {hp2:HpL}
 (r:Rl 3 6 340 0 19 6 ([(0,.ls 2 fr.length),(1,.pc 319 [.pp 3 0,.pp 5 0]),(7,.pv (iV (fr.length:Int))),(8,.pv (iV ((k+1:Nat):Int)))]) ([(3,0,.ls 0 u.length),(3,1,.ls 1 b.length),(3,2,.ls 2 fr.length),(5,0,.ls 4 b.length),(0,0,zrI u),(1,0,zrB b),(2,0,zrI fr),(4,0,.row 4 1 b.length (zbV (g.set x.toNat false)))]) e tm2 hp2):Rl 3 6 340 0 19 6 (qE2 fr k) (qla b fr g u) e tm2 hp2:=
 RunsL.next [] 300 [.t true,.r (iV x),.k,Cf hh [0,1,2],.k,.r (.bool true),.k,.w (zbV (g.set x.toNat false)),Re hs]
  (Ro (A3 hlt hif (qbb hf) (Co hh [0,1,2] 6 (A6 hix (qhY hg) hix (qug g x.toNat false hgl) (qeU g x.toNat hgl) hs tI)))) r
theorem qB4 (hge:decide ((k:Int)<(fr.length:Int))=false):Rl 3 6 340 0 19 6 (qE2 fr k) (qla b fr g u) (.exit 0) ([]) (qla b fr g u):=
 RunsL.stop [] 300 [.t false] (fun h=>by cases h)
  (Ro (Ai hge tI))
abbrev qFR (g:List Bool) (k:Nat):TmL:=[(0,.ls 0 g.length),(1,.pv (.bool true)),(7,.pv (iV (g.length:Int))),(8,.pv (iV (k:Int)))]
theorem qyK (hg:g[k]?=some true) (hig:Bd k g.length) (hlt:decide ((k:Int)<(g.length:Int))=true):Rl 1 1 341 0 19 1 (qFR g k) ([(0,0,zrB g)]) (.ret) ([(4,.pv (iV (k:Int)))]) ([]):=
 RunsL.stop [] 300 [.t true,.r (.bool true),.k] (fun h=>by cases h)
  (Ro (A3 hlt hig (qcM hg) tI))
theorem qln (hg:g[k]?=some false) (hig:Bd k g.length) (hlt:Dt ((k:Int)<(g.length:Int))) (hs:iV (IntKind.i64.wrap ((k:Int)+1))=iV (((k+1:Nat):Int))) {e:Exit} {tm2:TmL} {hp2:HpL}
 (r:Rl 1 1 341 0 19 1 ([(0,.ls 0 g.length),(1,.pv (.bool true)),(7,.pv (iV (g.length:Int))),(8,.pv (iV ((k+1:Nat):Int)))]) ([(0,0,zrB g)]) e tm2 hp2):Rl 1 1 341 0 19 1 (qFR g k) ([(0,0,zrB g)]) e tm2 hp2:=
 RunsL.next [] 300 [.t true,.r (.bool false),.k,Re hs]
  (Ro (A4 hlt hig (qcM hg) hs tI)) r
theorem qz6 (hge:decide ((k:Int)<(g.length:Int))=false):Rl 1 1 341 0 19 1 (qFR g k) ([(0,0,zrB g)]) (.exit 0) ([]) ([]):=
 RunsL.stop [] 300 [.t false] (fun h=>by cases h)
  (Ro (Ai hge tI))
theorem qBr (r0:Rl 1 1 341 0 19 1 ([(0,.ls 0 g.length),(1,.pv (.bool true)),(7,.pv (iV (g.length:Int))),(8,.pv (iV ((0:Nat):Int)))]) ([(0,0,zrB g)]) (.ret) ([(4,.pv (iV (k:Int)))]) ([])) (hk:decide ((k:Int)≥0)=true) :
 Fn 322 1 [.ls 0 g.length,.pv (.bool true)] [(0,0,zrB g)] (.pv (.bool true)) 0 []:=
 Fz [] [.k,Lf r0,.t true]
  tI (Lo r0 [] (Ai hk tI))
theorem qId (r0:Rl 1 1 341 0 19 1 ([(0,.ls 0 g.length),(1,.pv (.bool true)),(7,.pv (iV (g.length:Int))),(8,.pv (iV ((0:Nat):Int)))]) ([(0,0,zrB g)]) (.exit 0) ([]) ([])) :
 Fn 322 1 [.ls 0 g.length,.pv (.bool true)] [(0,0,zrB g)] (.pv (.bool false)) 0 []:=
 Fz [] [.k,Lf r0,.k]
  tI (Lo r0 [] tI)
abbrev qHn (b:List Bool) (fr:List Int) (g:List Bool) (u:List Int):Prop:=Rl 3 3 278 0 36 6 ([(1,.pp 3 0),(3,.pp 5 0),(12,.ls 1 b.length),(13,.pv (iV (b.length:Int))),(14,.pv (iV ((0:Nat):Int)))]) ([(3,0,.ls 0 u.length),(3,1,.ls 1 b.length),(3,2,.ls 2 fr.length),(5,0,.ls 4 b.length),(0,0,zrI u),(1,0,zrB b),(2,0,zrI fr),(4,0,.row 4 1 b.length (zbV (List.replicate b.length false)))]) (.exit 0) ([(1,.pp 3 0),(3,.pp 5 0)]) (qla b fr g u)
theorem qtl (n0:0≤(b.length:Int)) (n1:(b.length:Int)≤1000000) (r0:qHn b fr g u) (r1:Rl 3 6 340 0 19 6 ([(0,.ls 2 fr.length),(1,.pc 319 [.pp 3 0,.pp 5 0]),(7,.pv (iV (fr.length:Int))),(8,.pv (iV ((0:Nat):Int)))]) (qla b fr g u) (.ret) ([(4,.pv (iV (k:Int)))]) ([(3,0,.ls 0 u.length),(3,1,.ls 1 b.length),(3,2,.ls 2 fr.length),(5,0,.ls 4 b.length),(0,0,zrI u),(1,0,zrB b),(2,0,zrI fr),(4,0,.row 4 1 b.length (zbV g1))])) (hk:decide ((k:Int)≥0)=true) :
 Fn 278 3 [.ag [.ls 0 u.length,.ls 1 b.length,.ls 2 fr.length]] (qgd b fr u) (.pv (.bool false)) 0 []:=
 Fz [] [Lf r0,.k,.k,Lf r1,.t true,.k]
  tI (A6 n0 (Eq.refl (b.length:Int)) n1 (Lt r0 []) (Ai (El 0 u.length) (Ai (El 1 b.length) (Ai (El 2 fr.length) (Ai (El 4 b.length) (Ai (Er (zrI u)) (Ai (Er (zrB b)) (Ai (Er (zrI fr)) (Ai (qdg b.length) tI)))))))) r0 (Lo r1 [] (Ai hk tI)))
abbrev qJi (b:List Bool) (fr:List Int) (g:List Bool) (g1:List Bool) (u:List Int):Prop:=Rl 3 6 340 0 19 6 ([(0,.ls 2 fr.length),(1,.pc 319 [.pp 3 0,.pp 5 0]),(7,.pv (iV (fr.length:Int))),(8,.pv (iV ((0:Nat):Int)))]) (qla b fr g u) (.exit 0) ([]) ([(3,0,.ls 0 u.length),(3,1,.ls 1 b.length),(3,2,.ls 2 fr.length),(5,0,.ls 4 b.length),(0,0,zrI u),(1,0,zrB b),(2,0,zrI fr),(4,0,.row 4 1 b.length (zbV g1))])
theorem qva (n0:0≤(b.length:Int)) (n1:(b.length:Int)≤1000000) (r0:qHn b fr g u) (r1:qJi b fr g g1 u) (hl:g1.length=b.length) (hc:Fn 322 1 [.ls 0 b.length,.pv (.bool true)] [(0,0,.row 4 1 b.length (zbV g1))] (.pv (.bool true)) 0 []) :
 Fn 278 3 [.ag [.ls 0 u.length,.ls 1 b.length,.ls 2 fr.length]] (qgd b fr u) (.pv (.bool false)) 0 []:=
 Fz [] [Lf r0,.k,.k,Lf r1,.k,.k,Cf hc [4],.k]
  tI (A6 n0 (Eq.refl (b.length:Int)) n1 (Lt r0 []) (Ai (El 0 u.length) (Ai (El 1 b.length) (Ai (El 2 fr.length) (Ai (El 4 b.length) (Ai (Er (zrI u)) (Ai (Er (zrB b)) (Ai (Er (zrI fr)) (Ai (qdg b.length) tI)))))))) r0 (Lo r1 [] (Co hc [4] 6 tI)))
theorem qHm (n0:0≤(b.length:Int)) (n1:(b.length:Int)≤1000000) (r0:qHn b fr g u) (r1:qJi b fr g g1 u) (hl:g1.length=b.length) (hc:Fn 322 1 [.ls 0 b.length,.pv (.bool true)] [(0,0,.row 4 1 b.length (zbV g1))] (.pv (.bool false)) 0 []) :
 Fn 278 3 [.ag [.ls 0 u.length,.ls 1 b.length,.ls 2 fr.length]] (qgd b fr u) (.pv (.bool true)) 0 []:=
 Fz [] [Lf r0,.k,.k,Lf r1,.k,.k,Cf hc [4],.k]
  tI (A6 n0 (Eq.refl (b.length:Int)) n1 (Lt r0 []) (Ai (El 0 u.length) (Ai (El 1 b.length) (Ai (El 2 fr.length) (Ai (El 4 b.length) (Ai (Er (zrI u)) (Ai (Er (zrB b)) (Ai (Er (zrI fr)) (Ai (qdg b.length) tI)))))))) r0 (Lo r1 [] (Co hc [4] 6 tI)))
theorem qnv (hz:Pure Tryz.prog 213 #[iV (u.length:Int)] (.bool false)) :
 Fn 224 3 [.ag [.ls 0 u.length,.ls 1 b.length,.ls 2 fr.length]] (qgd b fr u) (.pv (iV (8))) 0 []:=
 Fz [] [Rf hz,.k]
  tI (Ai hz tI)
abbrev qtm (u:List Int):Prop:=Pure Tryz.prog 213 #[iV (u.length:Int)] (.bool true)
theorem qD2 (hz:qtm u) (hl:(!((b.length:Int)==(u.length:Int)))=true) :
 Fn 224 3 [.ag [.ls 0 u.length,.ls 1 b.length,.ls 2 fr.length]] (qgd b fr u) (.pv (iV (8))) 0 []:=
 Fz [] [Rf hz,.k,.t true]
  tI (A2 hz hl tI)
theorem qz1 (hz:qtm u) (hl:(!((b.length:Int)==(u.length:Int)))=false) (hu:Fn 277 3 [.ag [.ls 0 u.length,.ls 1 b.length,.ls 2 fr.length]] (qgd b fr u) (.pv (.bool false)) 0 []) :
 Fn 224 3 [.ag [.ls 0 u.length,.ls 1 b.length,.ls 2 fr.length]] (qgd b fr u) (.pv (iV (8))) 0 []:=
 Fz [] [Rf hz,.k,.t false,Cf hu [0,1,2],.k]
  tI (A2 hz hl (Co hu [0,1,2] 4 tI))
theorem qyx (hz:qtm u) (hl:(!((b.length:Int)==(u.length:Int)))=false) (hu:Fn 277 3 [.ag [.ls 0 u.length,.ls 1 b.length,.ls 2 fr.length]] (qgd b fr u) (.pv (.bool true)) 0 []) (hf:Fn 278 3 [.ag [.ls 0 u.length,.ls 1 b.length,.ls 2 fr.length]] (qgd b fr u) (.pv (.bool false)) 0 []) :
 Fn 224 3 [.ag [.ls 0 u.length,.ls 1 b.length,.ls 2 fr.length]] (qgd b fr u) (.pv (iV (8))) 0 []:=
 Fz [] [Rf hz,.k,.t false,Cf hu [0,1,2],.k,Cf hf [0,1,2],.k]
  tI (A2 hz hl (Co hu [0,1,2] 4 (Co hf [0,1,2] 4 tI)))
theorem qz9 (hz:qtm u) (hl:(!((b.length:Int)==(u.length:Int)))=false) (hu:Fn 277 3 [.ag [.ls 0 u.length,.ls 1 b.length,.ls 2 fr.length]] (qgd b fr u) (.pv (.bool true)) 0 []) (hf:Fn 278 3 [.ag [.ls 0 u.length,.ls 1 b.length,.ls 2 fr.length]] (qgd b fr u) (.pv (.bool true)) 0 []) :
 Fn 224 3 [.ag [.ls 0 u.length,.ls 1 b.length,.ls 2 fr.length]] (qgd b fr u) (.pv (iV (0))) 0 []:=
 Fz [] [Rf hz,.k,.t false,Cf hu [0,1,2],.k,Cf hu [0,1,2],.k]
  tI (A2 hz hl (Co hu [0,1,2] 4 (Co hf [0,1,2] 4 tI)))
end Go.Proofs.YtkckcgpmnipnaaaGreat

namespace Go.Proofs.YtkckcgpmnipnaaaGreat
set_option maxRecDepth 100000
open Go.RowKit
variable {a b hi lo za zb c d h l h1 e x y:Int} {s t g:Bool}
theorem qlQ {ah al bh bl low p1 lh m p2 mr n p3 mh s1 nh nr nr2 lr:Int} (nz:¬ (4294967296:Int)=0) (q1:Value.int .u64 (IntKind.u64.wrap (Int.tdiv a 4294967296))=.int .u64 ah) (q2:Value.int .u64 (Int.tmod a 4294967296)=.int .u64 al) (q3:Value.int .u64 (IntKind.u64.wrap (Int.tdiv b 4294967296))=.int .u64 bh) (q4:Value.int .u64 (Int.tmod b 4294967296)=.int .u64 bl) (x1:Value.int .u64 (IntKind.u64.wrap (al*bl))=.int .u64 low) (x2:Value.int .u64 (IntKind.u64.wrap (ah*bl))=.int .u64 p1) (q5:Value.int .u64 (IntKind.u64.wrap (Int.tdiv low 4294967296))=.int .u64 lh) (x3:Value.int .u64 (IntKind.u64.wrap (p1+lh))=.int .u64 m) (x4:Value.int .u64 (IntKind.u64.wrap (al*bh))=.int .u64 p2) (q6:Value.int .u64 (Int.tmod m 4294967296)=.int .u64 mr) (x5:Value.int .u64 (IntKind.u64.wrap (p2+mr))=.int .u64 n) (x6:Value.int .u64 (IntKind.u64.wrap (ah*bh))=.int .u64 p3) (q7:Value.int .u64 (IntKind.u64.wrap (Int.tdiv m 4294967296))=.int .u64 mh) (x7:Value.int .u64 (IntKind.u64.wrap (p3+mh))=.int .u64 s1) (q8:Value.int .u64 (IntKind.u64.wrap (Int.tdiv n 4294967296))=.int .u64 nh) (x8:Value.int .u64 (IntKind.u64.wrap (s1+nh))=.int .u64 hi) (q9:Value.int .u64 (Int.tmod n 4294967296)=.int .u64 nr) (x9:Value.int .u64 (IntKind.u64.wrap (nr*4294967296))=.int .u64 nr2) (q10:Value.int .u64 (Int.tmod low 4294967296)=.int .u64 lr) (x10:Value.int .u64 (IntKind.u64.wrap (nr2+lr))=.int .u64 lo) :
 Pure Tryz.prog 155 #[.int .u64 a,.int .u64 b] (qaz false hi lo):=
 qad (args:=[.int .u64 a,.int .u64 b]) 200 [Re q1,Re q2,Re q3,Re q4,Re x1,Re x2,Re q5,Re x3,Re x4,Re q6,Re x5,Re x6,Re q7,Re x7,Re q8,Re x8,Re q9,Re x9,Re q10,Re x10]
  (A9 rfl nz q1 nz q2 nz q3 nz q4 (A9 x1 x2 nz q5 x3 x4 nz q6 x5 (A9 x6 nz q7 x7 nz q8 x8 nz q9 (A4 x9 nz q10 x10 tI)))) (by kernel_rfl)
abbrev qzF (hi:Int) (lo:Int) (za:Int) (zb:Int):Prop:=Pure Tryz.prog 155 #[.int .u64 za,.int .u64 zb] (qaz false hi lo)
abbrev qzB (a:Int) (za:Int):Prop:=Pure Tryz.prog 95 #[iV a] (.int .u64 za)
abbrev qzC (b:Int) (zb:Int):Prop:=Pure Tryz.prog 95 #[iV b] (.int .u64 zb)
theorem qm3 (c1:qzB a za) (c2:qzC b zb) (c3:qzF hi lo za zb) (t1:Dt (a<0)) (t2:Dt (b<0)) :
 Pure Tryz.prog 87 #[iV a,iV b] (qaz false hi lo):=
 qad (args:=[iV a,iV b]) 200 [Rf c1,Rf c2,Rf c3,.t true,.t true,.k]
  (A6 rfl c1 c2 c3 t1 t2 tI) (by kernel_rfl)
theorem qmu (c1:qzB a za) (c2:qzC b zb) (c3:qzF hi lo za zb) (t1:decide (a<0)=true) (t2:decide (b<0)=false) (t3:(a !=0)=true) (t4:(b !=0)=false) :
 Pure Tryz.prog 87 #[iV a,iV b] (qaz false hi lo):=
 qad (args:=[iV a,iV b]) 200 [Rf c1,Rf c2,Rf c3,.t true,.t false,.k,.t true,.t false]
  (A8 rfl c1 c2 c3 t1 t2 t3 t4 tI) (by kernel_rfl)
theorem qlP (c1:qzB a za) (c2:qzC b zb) (c3:qzF hi lo za zb) (t1:decide (a<0)=true) (t2:decide (b<0)=false) (t3:(a !=0)=true) (t4:(b !=0)=true) :
 Pure Tryz.prog 87 #[iV a,iV b] (qaz true hi lo):=
 qad (args:=[iV a,iV b]) 200 [Rf c1,Rf c2,Rf c3,.t true,.t false,.k,.t true,.t true]
  (A8 rfl c1 c2 c3 t1 t2 t3 t4 tI) (by kernel_rfl)
theorem qm4 (c1:qzB a za) (c2:qzC b zb) (c3:qzF hi lo za zb) (t1:decide (a<0)=false) (t2:decide (b<0)=true) (t3:(a !=0)=false) :
 Pure Tryz.prog 87 #[iV a,iV b] (qaz false hi lo):=
 qad (args:=[iV a,iV b]) 200 [Rf c1,Rf c2,Rf c3,.t false,.t true,.k,.t false]
  (A7 rfl c1 c2 c3 t1 t2 t3 tI) (by kernel_rfl)
theorem qmk (c1:qzB a za) (c2:qzC b zb) (c3:qzF hi lo za zb) (t1:decide (a<0)=false) (t2:decide (b<0)=true) (t3:(a !=0)=true) (t4:(b !=0)=true) :
 Pure Tryz.prog 87 #[iV a,iV b] (qaz true hi lo):=
 qad (args:=[iV a,iV b]) 200 [Rf c1,Rf c2,Rf c3,.t false,.t true,.k,.t true,.t true]
  (A8 rfl c1 c2 c3 t1 t2 t3 t4 tI) (by kernel_rfl)
theorem qmB (c1:qzB a za) (c2:qzC b zb) (c3:qzF hi lo za zb) (t1:Df (a<0)) (t2:Df (b<0)) :
 Pure Tryz.prog 87 #[iV a,iV b] (qaz false hi lo):=
 qad (args:=[iV a,iV b]) 200 [Rf c1,Rf c2,Rf c3,.t false,.t false,.k]
  (A6 rfl c1 c2 c3 t1 t2 tI) (by kernel_rfl)
theorem qyV (t1:(hi==0)=true) (t2:(lo==0)=true) :
 Pure Tryz.prog 88 #[qaz s hi lo] (iV 0):=
 qad (args:=[qaz s hi lo]) 200 [.t true,.t true]
  (A3 rfl t1 t2 tI) (by kernel_rfl)
theorem qsG (t1:(hi==0)=false) :
 Pure Tryz.prog 88 #[qaz true hi lo] (iV (-1)):=
 qad (args:=[qaz true hi lo]) 200 [.t false]
  (A2 rfl t1 tI) (by kernel_rfl)
theorem qqT (t1:(hi==0)=true) (t2:(lo==0)=false) :
 Pure Tryz.prog 88 #[qaz true hi lo] (iV (-1)):=
 qad (args:=[qaz true hi lo]) 200 [.t true,.t false]
  (A3 rfl t1 t2 tI) (by kernel_rfl)
theorem qr9 (t1:(hi==0)=false) :
 Pure Tryz.prog 88 #[qaz false hi lo] (iV 1):=
 qad (args:=[qaz false hi lo]) 200 [.t false]
  (A2 rfl t1 tI) (by kernel_rfl)
theorem qrQ (t1:(hi==0)=true) (t2:(lo==0)=false) :
 Pure Tryz.prog 88 #[qaz false hi lo] (iV 1):=
 qad (args:=[qaz false hi lo]) 200 [.t true,.t false]
  (A3 rfl t1 t2 tI) (by kernel_rfl)
theorem qrb (t1:(a !=c)=true) (t2:decide (a<c)=true) :
 Pure Tryz.prog 89 #[qaz s a b,qaz t c d] (iV (-1)):=
 qad (args:=[qaz s a b,qaz t c d]) 200 [.t true,.t true]
  (A3 rfl t1 t2 tI) (by kernel_rfl)
theorem qr5 (t1:(a !=c)=true) (t2:decide (a<c)=false) :
 Pure Tryz.prog 89 #[qaz s a b,qaz t c d] (iV 1):=
 qad (args:=[qaz s a b,qaz t c d]) 200 [.t true,.t false]
  (A3 rfl t1 t2 tI) (by kernel_rfl)
theorem qsD (t1:(a !=c)=false) (t3:(b !=d)=true) (t4:decide (b<d)=true) :
 Pure Tryz.prog 89 #[qaz s a b,qaz t c d] (iV (-1)):=
 qad (args:=[qaz s a b,qaz t c d]) 200 [.t false,.t true,.t true]
  (A4 rfl t1 t3 t4 tI) (by kernel_rfl)
theorem qqz (t1:(a !=c)=false) (t3:(b !=d)=true) (t4:decide (b<d)=false) :
 Pure Tryz.prog 89 #[qaz s a b,qaz t c d] (iV 1):=
 qad (args:=[qaz s a b,qaz t c d]) 200 [.t false,.t true,.t false]
  (A4 rfl t1 t3 t4 tI) (by kernel_rfl)
theorem qql (t1:(a !=c)=false) (t3:(b !=d)=false) :
 Pure Tryz.prog 89 #[qaz s a b,qaz t c d] (iV 0):=
 qad (args:=[qaz s a b,qaz t c d]) 200 [.t false,.t false]
  (A3 rfl t1 t3 tI) (by kernel_rfl)
theorem qCZ (x1:Value.int .u64 (IntKind.u64.wrap (a-c))=.int .u64 h) (x2:Value.int .u64 (IntKind.u64.wrap (b-d))=.int .u64 l) (t1:decide (b<d)=false) :
 Pure Tryz.prog 244 #[qaz s a b,qaz t c d] (qaz false h l):=
 qad (args:=[qaz s a b,qaz t c d]) 200 [Re x1,Re x2,.t false]
  (A4 rfl x1 x2 t1 tI) (by kernel_rfl)
theorem qAO (x1:Value.int .u64 (IntKind.u64.wrap (a-c))=.int .u64 h) (x2:Value.int .u64 (IntKind.u64.wrap (b-d))=.int .u64 l) (t1:decide (b<d)=true) (x3:Value.int .u64 (IntKind.u64.wrap (h-1))=.int .u64 h1) :
 Pure Tryz.prog 244 #[qaz s a b,qaz t c d] (qaz false h1 l):=
 qad (args:=[qaz s a b,qaz t c d]) 200 [Re x1,Re x2,.t true,Re x3]
  (A5 rfl x1 x2 t1 x3 tI) (by kernel_rfl)
theorem qpU (x1:Value.int .u64 (IntKind.u64.wrap (a+c))=.int .u64 h) (x2:Value.int .u64 (IntKind.u64.wrap (b+d))=.int .u64 l) (t1:Df (l<b)) :
 Pure Tryz.prog 202 #[qaz true a b,qaz true c d] (qaz true h l):=
 qad (args:=[qaz true a b,qaz true c d]) 200 [.k,Re x1,Re x2,.t false]
  (A4 rfl x1 x2 t1 tI) (by kernel_rfl)
theorem qps (x1:Value.int .u64 (IntKind.u64.wrap (a+c))=.int .u64 h) (x2:Value.int .u64 (IntKind.u64.wrap (b+d))=.int .u64 l) (t1:Dt (l<b)) (x3:Value.int .u64 (IntKind.u64.wrap (h+1))=.int .u64 h1) :
 Pure Tryz.prog 202 #[qaz true a b,qaz true c d] (qaz true h1 l):=
 qad (args:=[qaz true a b,qaz true c d]) 200 [.k,Re x1,Re x2,.t true,Re x3]
  (A5 rfl x1 x2 t1 x3 tI) (by kernel_rfl)
theorem qpy (c1:Pure Tryz.prog 89 #[qaz true a b,qaz false c d] (iV e)) (t1:decide (e≥0)=true) (c2:Pure Tryz.prog 244 #[qaz true a b,qaz false c d] (qaz false h l)) (t2:decide (h>0)=true) :
 Pure Tryz.prog 202 #[qaz true a b,qaz false c d] (qaz true h l):=
 qad (args:=[qaz true a b,qaz false c d]) 200 [.k,Rf c1,.t true,Rf c2,.t true]
  (A5 rfl c1 t1 c2 t2 tI) (by kernel_rfl)
theorem qph (c1:Pure Tryz.prog 89 #[qaz true a b,qaz false c d] (iV e)) (t1:decide (e≥0)=true) (c2:Pure Tryz.prog 244 #[qaz true a b,qaz false c d] (qaz false h l)) (t2:decide (h>0)=false) (t3:decide (l>0)=true) :
 Pure Tryz.prog 202 #[qaz true a b,qaz false c d] (qaz true h l):=
 qad (args:=[qaz true a b,qaz false c d]) 200 [.k,Rf c1,.t true,Rf c2,.t false,.t true]
  (A6 rfl c1 t1 c2 t2 t3 tI) (by kernel_rfl)
theorem qpY (c1:Pure Tryz.prog 89 #[qaz true a b,qaz false c d] (iV e)) (t1:decide (e≥0)=true) (c2:Pure Tryz.prog 244 #[qaz true a b,qaz false c d] (qaz false h l)) (t2:decide (h>0)=false) (t3:decide (l>0)=false) :
 Pure Tryz.prog 202 #[qaz true a b,qaz false c d] (qaz false h l):=
 qad (args:=[qaz true a b,qaz false c d]) 200 [.k,Rf c1,.t true,Rf c2,.t false,.t false]
  (A6 rfl c1 t1 c2 t2 t3 tI) (by kernel_rfl)
theorem qtC (c1:Pure Tryz.prog 89 #[qaz true a b,qaz false c d] (iV e)) (t1:decide (e≥0)=false) (c2:Pure Tryz.prog 244 #[qaz false c d,qaz true a b] (qaz false h l)) :
 Pure Tryz.prog 202 #[qaz true a b,qaz false c d] (qaz false h l):=
 qad (args:=[qaz true a b,qaz false c d]) 200 [.k,Rf c1,.t false,Rf c2]
  (A4 rfl c1 t1 c2 tI) (by kernel_rfl)
theorem qo9 (x1:Value.int .u64 (IntKind.u64.wrap (a+c))=.int .u64 h) (x2:Value.int .u64 (IntKind.u64.wrap (b+d))=.int .u64 l) (t1:Df (l<b)) :
 Pure Tryz.prog 202 #[qaz false a b,qaz false c d] (qaz false h l):=
 qad (args:=[qaz false a b,qaz false c d]) 200 [.k,Re x1,Re x2,.t false]
  (A4 rfl x1 x2 t1 tI) (by kernel_rfl)
theorem qoY (x1:Value.int .u64 (IntKind.u64.wrap (a+c))=.int .u64 h) (x2:Value.int .u64 (IntKind.u64.wrap (b+d))=.int .u64 l) (t1:Dt (l<b)) (x3:Value.int .u64 (IntKind.u64.wrap (h+1))=.int .u64 h1) :
 Pure Tryz.prog 202 #[qaz false a b,qaz false c d] (qaz false h1 l):=
 qad (args:=[qaz false a b,qaz false c d]) 200 [.k,Re x1,Re x2,.t true,Re x3]
  (A5 rfl x1 x2 t1 x3 tI) (by kernel_rfl)
theorem qqM (c1:Pure Tryz.prog 89 #[qaz false a b,qaz true c d] (iV e)) (t1:decide (e≥0)=true) (c2:Pure Tryz.prog 244 #[qaz false a b,qaz true c d] (qaz false h l)) :
 Pure Tryz.prog 202 #[qaz false a b,qaz true c d] (qaz false h l):=
 qad (args:=[qaz false a b,qaz true c d]) 200 [.k,Rf c1,.t true,Rf c2]
  (A4 rfl c1 t1 c2 tI) (by kernel_rfl)
theorem qqt (c1:Pure Tryz.prog 89 #[qaz false a b,qaz true c d] (iV e)) (t1:decide (e≥0)=false) (c2:Pure Tryz.prog 244 #[qaz true c d,qaz false a b] (qaz false h l)) :
 Pure Tryz.prog 202 #[qaz false a b,qaz true c d] (qaz true h l):=
 qad (args:=[qaz false a b,qaz true c d]) 200 [.k,Rf c1,.t false,Rf c2]
  (A4 rfl c1 t1 c2 tI) (by kernel_rfl)
theorem qrK (t1:decide (a>0)=true) :
 Pure Tryz.prog 326 #[.bool g,qaz s a b,qaz t c d] (.tuple #[qab 0 0,iV 16]):=
 qad (args:=[.bool g,qaz s a b,qaz t c d]) 200 [.t true]
  (A2 rfl t1 tI) (by kernel_rfl)
theorem qs9 (t1:decide (a>0)=false) (t2:decide (b>9223372036854775807)=true) :
 Pure Tryz.prog 326 #[.bool g,qaz s a b,qaz t c d] (.tuple #[qab 0 0,iV 16]):=
 qad (args:=[.bool g,qaz s a b,qaz t c d]) 200 [.t false,.t true]
  (A3 rfl t1 t2 tI) (by kernel_rfl)
theorem qtk (t1:decide (a>0)=false) (t2:decide (b>9223372036854775807)=false) (t3:decide (c>0)=true) :
 Pure Tryz.prog 326 #[.bool g,qaz s a b,qaz t c d] (.tuple #[qab 0 0,iV 16]):=
 qad (args:=[.bool g,qaz s a b,qaz t c d]) 200 [.t false,.t false,.t true]
  (A4 rfl t1 t2 t3 tI) (by kernel_rfl)
theorem qr6 (t1:decide (a>0)=false) (t2:decide (b>9223372036854775807)=false) (t3:decide (c>0)=false) (t4:decide (d>9223372036854775807)=true) :
 Pure Tryz.prog 326 #[.bool g,qaz s a b,qaz t c d] (.tuple #[qab 0 0,iV 16]):=
 qad (args:=[.bool g,qaz s a b,qaz t c d]) 200 [.t false,.t false,.t false,.t true]
  (A5 rfl t1 t2 t3 t4 tI) (by kernel_rfl)
theorem qxZ {z:Int} (t1:decide (a>0)=false) (t2:decide (b>9223372036854775807)=false) (t3:decide (c>0)=false) (t4:decide (d>9223372036854775807)=false) (v1:iV (IntKind.i64.wrap b)=iV x) (v2:iV (IntKind.i64.wrap (0-x))=iV z) (v3:iV (IntKind.i64.wrap d)=iV y) :
 Pure Tryz.prog 326 #[.bool true,qaz s a b,qaz t c d] (.tuple #[qab z y,iV 0]):=
 qad (args:=[.bool true,qaz s a b,qaz t c d]) 200 [.t false,.t false,.t false,.t false,Re v1,Re v2,Re v3]
  (A8 rfl t1 t2 t3 t4 v1 v2 v3 tI) (by kernel_rfl)
theorem qxm (t1:decide (a>0)=false) (t2:decide (b>9223372036854775807)=false) (t3:decide (c>0)=false) (t4:decide (d>9223372036854775807)=false) (v1:iV (IntKind.i64.wrap b)=iV x) (v3:iV (IntKind.i64.wrap d)=iV y) :
 Pure Tryz.prog 326 #[.bool false,qaz s a b,qaz t c d] (.tuple #[qab x y,iV 0]):=
 qad (args:=[.bool false,qaz s a b,qaz t c d]) 200 [.t false,.t false,.t false,.t false,Re v1,Re v3]
  (A7 rfl t1 t2 t3 t4 v1 v3 tI) (by kernel_rfl)
end Go.Proofs.YtkckcgpmnipnaaaGreat

namespace Go.Proofs.YtkckcgpmnipnaaaGreat
set_option maxRecDepth 100000
open Go.RowKit
theorem qzJ (x y:Nat):Int.tdiv (x:Int) (y:Int)=((x/y:Nat):Int):=by rw[Int.tdiv_eq_ediv_of_nonneg (Int.natCast_nonneg x)];simp
theorem qHw (x y:Nat):Int.tmod (x:Int) (y:Int)=((x%y:Nat):Int):=by rw[Int.tmod_eq_emod_of_nonneg (Int.natCast_nonneg x)];simp
theorem qCU (x:Nat) (h:x<18446744073709551616):Value.int .u64 (IntKind.u64.wrap (Int.tdiv (x:Int) 4294967296))=.int .u64 ((x/4294967296:Nat):Int):=by
 rw[show (4294967296:Int)=((4294967296:Nat):Int) from rfl,qzJ,qef (by omega) (by omega)]
theorem qCC (x:Nat):Value.int .u64 (Int.tmod (x:Int) 4294967296)=.int .u64 ((x%4294967296:Nat):Int):=by
 rw[show (4294967296:Int)=((4294967296:Nat):Int) from rfl,qHw]
theorem qEN {x y:Nat} (h:x*y<18446744073709551616):Value.int .u64 (IntKind.u64.wrap ((x:Int)*(y:Int)))=.int .u64 ((x*y:Nat):Int):=qhA (by simp) (Int.natCast_nonneg _) (by omega)
theorem qwE {x y:Nat} (h:x+y<18446744073709551616):Value.int .u64 (IntKind.u64.wrap ((x:Int)+(y:Int)))=.int .u64 ((x+y:Nat):Int):=qhA (by simp) (by omega) (by omega)
theorem qBw (ah al bh bl:Nat):(ah*4294967296+al)*(bh*4294967296+bl)=ah*bh*18446744073709551616+(ah*bl+al*bh)*4294967296+al*bl:=by
 have e1:ah*4294967296*(bh*4294967296)=ah*bh*18446744073709551616:=Nat.mul_mul_mul_comm ah 4294967296 bh 4294967296;have e2:ah*4294967296*bl=ah*bl*4294967296:=Nat.mul_right_comm ah 4294967296 bl;have e3:al*(bh*4294967296)=al*bh*4294967296:=(Nat.mul_assoc al bh 4294967296).symm;rw[Nat.add_mul,Nat.mul_add,Nat.mul_add,e1,e2,e3,Nat.add_mul];omega
theorem qoN (a b:Nat) (ha:a<18446744073709551616) (hb:b<18446744073709551616):Pure Tryz.prog 155 #[.int .u64 a,.int .u64 b] (qjc false (a*b)):=by
 obtain⟨ah,hah⟩:∃ x,x=a/4294967296:=⟨_,rfl⟩;obtain⟨al,hal⟩:∃ x,x=a%4294967296:=⟨_,rfl⟩;obtain⟨bh,hbh⟩:∃ x,x=b/4294967296:=⟨_,rfl⟩;obtain⟨bl,hbl⟩:∃ x,x=b%4294967296:=⟨_,rfl⟩
 have e1:a=ah*4294967296+al:=by omega
 have e2:b=bh*4294967296+bl:=by omega
 have key:=qBw ah al bh bl;rw[← e1,← e2] at key;have m1:ah*bl≤4294967295*4294967295:=Nat.mul_le_mul (by omega) (by omega);have m2:al*bh≤4294967295*4294967295:=Nat.mul_le_mul (by omega) (by omega);have m3:ah*bh≤4294967295*4294967295:=Nat.mul_le_mul (by omega) (by omega);have m4:al*bl≤4294967295*4294967295:=Nat.mul_le_mul (by omega) (by omega)
 have hab:a*b<340282366920938463463374607431768211456:=by
  have:a*b≤18446744073709551615*18446744073709551615:=Nat.mul_le_mul (by omega) (by omega);omega
 have x1:=qEN (x:=al) (y:=bl) (by omega);have x2:=qEN (x:=ah) (y:=bl) (by omega);have x4:=qEN (x:=al) (y:=bh) (by omega);have x6:=qEN (x:=ah) (y:=bh) (by omega);have q1:=qCU a ha;have q2:=qCC a;have q3:=qCU b hb;have q4:=qCC b;rw[← hah] at q1;rw[← hal] at q2;rw[← hbh] at q3;rw[← hbl] at q4;generalize ah*bl=p1 at *;generalize al*bh=p2 at *;generalize ah*bh=p3 at *;generalize al*bl=low at *;generalize a*b=ab at *;obtain⟨m,hm⟩:∃ m,m=p1+low/4294967296:=⟨_,rfl⟩;obtain⟨n,hn⟩:∃ n,n=p2+m%4294967296:=⟨_,rfl⟩
 have r:=qlQ (nz:=by decide) q1 q2 q3 q4 x1 x2 (qCU low (by omega)) (qwE (by omega)) x4 (qCC _) (qwE (by omega)) x6 (qCU _ (by omega)) (qwE (by omega)) (qCU _ (by omega)) (qwE (by omega))
  (qCC _) (qhA (y:=((n%4294967296*4294967296:Nat):Int)) (by rw[hn,hm];simp) (by omega) (by omega)) (qCC _) (qwE (by omega))
 rw[← hm,← hn] at r
 have f1:p3+m/4294967296+n/4294967296=ab/18446744073709551616:=by omega
 have f2:n%4294967296*4294967296+low%4294967296=ab%18446744073709551616:=by omega
 rw[f1,f2] at r;exact r
abbrev qd9 (x:Int):Value:=qjc (decide (x<0)) x.natAbs
theorem qdI (n:Int) (h:I64 n):Pure Tryz.prog 95 #[iV n] (.int .u64 (n.natAbs:Int)):=
 fun w=>(qgC n w h.1 h.2).mono fun _ _ ⟨h1,h2⟩=>⟨h1,Gr.of_eq h2⟩
theorem qaX {p:Prop} [Decidable p] (h:p):decide p=true:=by simp[h]
theorem qaR {p:Prop} [Decidable p] (h:¬ p):decide p=false:=by simp[h]
theorem qci (a b:Int) (ha:I64 a) (hb:I64 b):Pure Tryz.prog 87 #[iV a,iV b] (qd9 (a*b)):=by
 have ca:=qdI a ha;have cb:=qdI b hb;unfold I64 at ha hb;have cp:=qoN a.natAbs b.natAbs (by omega) (by omega);unfold qd9;rw[Int.natAbs_mul]
 by_cases sa:a<0<;>by_cases sb:b<0
 ·rw[qaR (show ¬ a*b<0 by have:=Int.mul_pos_of_neg_of_neg sa sb;omega)];exact qm3 ca cb cp (qaX sa) (qaX sb)
 ·by_cases nb:b=0
  ·subst nb;rw[qaR (by simp)];exact qmu ca cb cp (qaX sa) (qaR sb) (by simp;omega) (by simp)
  ·rw[qaX (Int.mul_neg_of_neg_of_pos sa (by omega))];exact qlP ca cb cp (qaX sa) (qaR sb) (by simp;omega) (by simpa using nb)
 ·by_cases na:a=0
  ·subst na;rw[qaR (by simp)];exact qm4 ca cb cp (qaR sa) (qaX sb) (by simp)
  ·rw[qaX (Int.mul_neg_of_pos_of_neg (by omega) sb)];exact qmk ca cb cp (qaR sa) (qaX sb) (by simpa using na) (by simp;omega)
 ·rw[qaR (show ¬ a*b<0 by have:=Int.mul_nonneg (show 0≤a by omega) (show 0≤b by omega);omega)];exact qmB ca cb cp (qaR sa) (qaR sb)
theorem qfW (x:Int):Pure Tryz.prog 88 #[qd9 x] (iV x.sign):=by
 unfold qd9;obtain⟨A,hA⟩:∃ A,A=x.natAbs:=⟨_,rfl⟩;rw[← hA];by_cases h0:x=0
 ·subst h0;subst hA;exact qyV (by simp) (by simp)
 ·by_cases hs:x<0
  ·rw[qaX hs,Int.sign_eq_neg_one_of_neg hs];by_cases hh:A/18446744073709551616=0
   ·exact qqT (by simp[hh]) (by simp;omega)
   ·exact qsG (by simp;omega)
  ·rw[qaR hs,Int.sign_eq_one_of_pos (by omega)];by_cases hh:A/18446744073709551616=0
   ·exact qrQ (by simp[hh]) (by simp;omega)
   ·exact qr9 (by simp;omega)
def qgl (A B:Nat):Int:=if A<B then -1 else if A=B then 0 else 1
theorem qd2 (s t:Bool) (A B:Nat):Pure Tryz.prog 89 #[qjc s A,qjc t B] (iV (qgl A B)):=by
 by_cases hh:A/18446744073709551616=B/18446744073709551616
 ·by_cases hl:A%18446744073709551616=B%18446744073709551616
  ·have e:A=B:=by omega
   subst e;rw[show qgl A A=0 by simp[qgl]];exact qql (by simp) (by simp)
  ·by_cases hlt:A%18446744073709551616<B%18446744073709551616
   ·rw[show qgl A B = -1 by unfold qgl;rw[if_pos (by omega)]];exact qsD (by simp[hh]) (by simp;omega) (by simp;omega)
   ·rw[show qgl A B=1 by unfold qgl;rw[if_neg (by omega),if_neg (by omega)]];exact qqz (by simp[hh]) (by simp;omega) (by simp;omega)
 ·by_cases hlt:A/18446744073709551616<B/18446744073709551616
  ·rw[show qgl A B = -1 by unfold qgl;rw[if_pos (by omega)]];exact qrb (by simp;omega) (by simp;omega)
  ·rw[show qgl A B=1 by unfold qgl;rw[if_neg (by omega),if_neg (by omega)]];exact qr5 (by simp;omega) (by simp;omega)
theorem qkh {x y:Nat} (h:x<y) (hy:y<18446744073709551616):Value.int .u64 (IntKind.u64.wrap ((x:Int)-(y:Int)))=.int .u64 ((18446744073709551616+x-y:Nat):Int):=by
 rw[IntKind.wrap_u64];congr 1;omega
theorem qfg (s t:Bool) (A B:Nat) (hA:A<340282366920938463463374607431768211456) (h:B≤A):Pure Tryz.prog 244 #[qjc s A,qjc t B] (qjc false (A-B)):=by
 obtain⟨a1,ha1⟩:∃ x,x=A/18446744073709551616:=⟨_,rfl⟩;obtain⟨a0,ha0⟩:∃ x,x=A%18446744073709551616:=⟨_,rfl⟩;obtain⟨b1,hb1⟩:∃ x,x=B/18446744073709551616:=⟨_,rfl⟩;obtain⟨b0,hb0⟩:∃ x,x=B%18446744073709551616:=⟨_,rfl⟩;unfold qjc;rw[← ha1,← ha0,← hb1,← hb0];have hs:Value.int .u64 (IntKind.u64.wrap ((a1:Int)-(b1:Int)))=.int .u64 ((a1-b1:Nat):Int):=qhA (by omega) (by omega) (by omega);by_cases hl:a0<b0
 ·rw[show (A-B)/18446744073709551616=a1-b1-1 by omega,show (A-B)%18446744073709551616=18446744073709551616+a0-b0 by omega];exact qAO hs (qkh hl (by omega)) (by simp;omega) (qhA (by omega) (by omega) (by omega))
 ·rw[show (A-B)/18446744073709551616=a1-b1 by omega,show (A-B)%18446744073709551616=a0-b0 by omega];exact qCZ hs (qhA (by omega) (by omega) (by omega)) (by simp;omega)
theorem qjW {x y z:Nat} (h:x+y=z+18446744073709551616) (hz:z<18446744073709551616):Value.int .u64 (IntKind.u64.wrap ((x:Int)+(y:Int)))=.int .u64 (z:Int):=by
 rw[IntKind.wrap_u64,show ((x:Int)+(y:Int))%18446744073709551616=(z:Int) by omega]
theorem qDq (s:Bool) (A B:Nat) (h:A+B<340282366920938463463374607431768211456):Pure Tryz.prog 202 #[qjc s A,qjc s B] (qjc s (A+B)):=by
 obtain⟨a1,ha1⟩:∃ x,x=A/18446744073709551616:=⟨_,rfl⟩;obtain⟨a0,ha0⟩:∃ x,x=A%18446744073709551616:=⟨_,rfl⟩;obtain⟨b1,hb1⟩:∃ x,x=B/18446744073709551616:=⟨_,rfl⟩;obtain⟨b0,hb0⟩:∃ x,x=B%18446744073709551616:=⟨_,rfl⟩;unfold qjc;rw[← ha1,← ha0,← hb1,← hb0];have hh:Value.int .u64 (IntKind.u64.wrap ((a1:Int)+(b1:Int)))=.int .u64 ((a1+b1:Nat):Int):=qwE (by omega);by_cases hl:a0+b0<18446744073709551616
 ·have l1:=qwE hl;rw[show (A+B)/18446744073709551616=a1+b1 by omega,show (A+B)%18446744073709551616=a0+b0 by omega];cases s
  ·exact qo9 hh l1 (qaR (by omega))
  ·exact qpU hh l1 (qaR (by omega))
 ·obtain⟨z,hz⟩:∃ z,a0+b0=z+18446744073709551616:=⟨a0+b0-18446744073709551616,by omega⟩;have l1:=qjW hz (by omega);rw[show (A+B)/18446744073709551616=a1+b1+1 by omega,show (A+B)%18446744073709551616=z by omega];cases s
  ·exact qoY hh l1 (qaX (by omega)) (qhA (by omega) (by omega) (by omega))
  ·exact qps hh l1 (qaX (by omega)) (qhA (by omega) (by omega) (by omega))
theorem qnw (x y:Int) (hx:x.natAbs<170141183460469231731687303715884105728) (hy:y.natAbs<170141183460469231731687303715884105728):Pure Tryz.prog 202 #[qd9 x,qd9 y] (qd9 (x+y)):=by
 unfold qd9
 by_cases sx:x<0<;>by_cases sy:y<0
 ·rw[qaX sx,qaX sy,qaX (show x+y<0 by omega),show (x+y).natAbs=x.natAbs+y.natAbs by omega];exact qDq true _ _ (by omega)
 ·rw[qaX sx,qaR sy];have cl:=qd2 true false x.natAbs y.natAbs;by_cases hc:y.natAbs≤x.natAbs
  ·have cm:=qfg true false x.natAbs y.natAbs (by omega) hc;rw[show (x+y).natAbs=x.natAbs-y.natAbs by omega]
   have hge:decide (qgl x.natAbs y.natAbs≥0)=true:=by unfold qgl;rw[if_neg (by omega)];split<;>decide
   obtain⟨D,hD⟩:∃ D,D=x.natAbs-y.natAbs:=⟨_,rfl⟩;rw[← hD] at cm ⊢;by_cases hd:D=0
   ·rw[qaR (show ¬ x+y<0 by omega)];exact qpY cl hge cm (by simp[hd]) (by simp[hd])
   ·rw[qaX (show x+y<0 by omega)];by_cases hh:D/18446744073709551616=0
    ·exact qph cl hge cm (by simp[hh]) (by simp;omega)
    ·exact qpy cl hge cm (by simp;omega)
  ·have cm:=qfg false true y.natAbs x.natAbs (by omega) (by omega);rw[show (x+y).natAbs=y.natAbs-x.natAbs by omega,qaR (show ¬ x+y<0 by omega)];exact qtC cl (by unfold qgl;rw[if_pos (by omega)];decide) cm
 ·rw[qaR sx,qaX sy];have cl:=qd2 false true x.natAbs y.natAbs;by_cases hc:y.natAbs≤x.natAbs
  ·have cm:=qfg false true x.natAbs y.natAbs (by omega) hc;rw[show (x+y).natAbs=x.natAbs-y.natAbs by omega,qaR (show ¬ x+y<0 by omega)];exact qqM cl (by unfold qgl;rw[if_neg (by omega)];split<;>decide) cm
  ·have cm:=qfg true false y.natAbs x.natAbs (by omega) (by omega);rw[show (x+y).natAbs=y.natAbs-x.natAbs by omega,qaX (show x+y<0 by omega)];exact qqt cl (by unfold qgl;rw[if_pos (by omega)];decide) cm
 ·rw[qaR sx,qaR sy,qaR (show ¬ x+y<0 by omega),show (x+y).natAbs=x.natAbs+y.natAbs by omega];exact qDq false _ _ (by omega)
theorem qpE (g s t:Bool) (A B:Nat):Pure Tryz.prog 326 #[.bool g,qjc s A,qjc t B] (.tuple #[qab (qeH (qbr A&&qbr B) (sgV A g)) (qeH (qbr A&&qbr B) (B:Int)),iV (qnk (qbr A&&qbr B))]):=by
 by_cases hA:A<9223372036854775808
 ·by_cases hB:B<9223372036854775808
  ·have hf:(qbr A&&qbr B)=true:=by simp[qbr,hA,hB]
   rw[hf,show qeH true (sgV A g)=sgV A g from rfl,show qeH true (B:Int)=(B:Int) from rfl,show qnk true=0 from rfl]
   have v1:iV (IntKind.i64.wrap ((A%18446744073709551616:Nat):Int))=iV (A:Int):=by rw[qas (by omega) (by omega)];congr 1;omega
   have v3:iV (IntKind.i64.wrap ((B%18446744073709551616:Nat):Int))=iV (B:Int):=by rw[qas (by omega) (by omega)];congr 1;omega
   cases g
   ·rw[show sgV A false=(A:Int) by unfold sgV;rw[if_pos hA];rfl];exact qxm (by simp;omega) (by simp;omega) (by simp;omega) (by simp;omega) v1 v3
   ·rw[show sgV A true = -(A:Int) by unfold sgV;rw[if_pos hA];rfl];exact qxZ (by simp;omega) (by simp;omega) (by simp;omega) (by simp;omega) v1 (by rw[Int.zero_sub,qas (by omega) (by omega)]) v3
  ·rw[show (qbr A&&qbr B)=false by simp[qbr,hB]];by_cases hh:B/18446744073709551616=0
   ·exact qr6 (by simp;omega) (by simp;omega) (by simp;omega) (by simp;omega)
   ·exact qtk (by simp;omega) (by simp;omega) (by simp;omega)
 ·rw[show (qbr A&&qbr B)=false by simp[qbr,hA]];by_cases hh:A/18446744073709551616=0
  ·exact qs9 (by simp;omega) (by simp;omega)
  ·exact qrK (by simp;omega)
end Go.Proofs.YtkckcgpmnipnaaaGreat

namespace Go.Proofs.YtkckcgpmnipnaaaGreat
set_option maxRecDepth 100000
open Go.RowKit
variable {a b c d x y e:Int}
abbrev qEZ (x:Int):Prop:=Pure Tryz.prog 88 #[qd9 (x)] (iV x.sign)
abbrev qEC (y:Int):Prop:=Pure Tryz.prog 88 #[qd9 (y)] (iV y.sign)
theorem qmF (c1:Pure Tryz.prog 87 #[iV a,iV d] (qd9 (x))) (c2:Pure Tryz.prog 87 #[iV c,iV b] (qd9 (y))) (s1:qEZ x) (s2:qEC y) (t1:(x.sign !=y.sign)=true) (t2:decide (x.sign<y.sign)=true) :
 Pure Tryz.prog 40 #[qab a b,qab c d] (iV (-1)):=
 qad (args:=[qab a b,qab c d]) 200 [Rf c1,Rf c2,Rf s1,Rf s2,.t true,Rf s1,Rf s2,.t true]
  (A9 rfl c1 c2 s1 s2 t1 s1 s2 t2 tI) (by kernel_rfl)
theorem qmQ (c1:Pure Tryz.prog 87 #[iV a,iV d] (qd9 (x))) (c2:Pure Tryz.prog 87 #[iV c,iV b] (qd9 (y))) (s1:qEZ x) (s2:qEC y) (t1:(x.sign !=y.sign)=true) (t2:decide (x.sign<y.sign)=false) :
 Pure Tryz.prog 40 #[qab a b,qab c d] (iV 1):=
 qad (args:=[qab a b,qab c d]) 200 [Rf c1,Rf c2,Rf s1,Rf s2,.t true,Rf s1,Rf s2,.t false]
  (A9 rfl c1 c2 s1 s2 t1 s1 s2 t2 tI) (by kernel_rfl)
theorem ql5 (c1:Pure Tryz.prog 87 #[iV a,iV d] (qd9 (x))) (c2:Pure Tryz.prog 87 #[iV c,iV b] (qd9 (y))) (s1:qEZ x) (s2:qEC y) (t1:(x.sign !=y.sign)=false) (t3:decide (x.sign<0)=true) (l1:Pure Tryz.prog 89 #[qd9 (y),qd9 (x)] (iV e)) :
 Pure Tryz.prog 40 #[qab a b,qab c d] (iV e):=
 qad (args:=[qab a b,qab c d]) 200 [Rf c1,Rf c2,Rf s1,Rf s2,.t false,Rf s1,.t true,Rf l1]
  (A9 rfl c1 c2 s1 s2 t1 s1 t3 l1 tI) (by kernel_rfl)
theorem ql6 (c1:Pure Tryz.prog 87 #[iV a,iV d] (qd9 (x))) (c2:Pure Tryz.prog 87 #[iV c,iV b] (qd9 (y))) (s1:qEZ x) (s2:qEC y) (t1:(x.sign !=y.sign)=false) (t3:decide (x.sign<0)=false) (l1:Pure Tryz.prog 89 #[qd9 (x),qd9 (y)] (iV e)) :
 Pure Tryz.prog 40 #[qab a b,qab c d] (iV e):=
 qad (args:=[qab a b,qab c d]) 200 [Rf c1,Rf c2,Rf s1,Rf s2,.t false,Rf s1,.t false,Rf l1]
  (A9 rfl c1 c2 s1 s2 t1 s1 t3 l1 tI) (by kernel_rfl)
end Go.Proofs.YtkckcgpmnipnaaaGreat
