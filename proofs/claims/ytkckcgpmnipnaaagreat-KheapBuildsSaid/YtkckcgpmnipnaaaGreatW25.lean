/-
  Joined: Si, Zb, Ec. Conditions: none.
-/
import Derived.Lib.SortBridge
import Derived.Test.YtkckcgpmnipnaaaGreatSi0
import Derived.Test.YtkckcgpmnipnaaaGreatW24
import Derived.Test.YtkckcgpmnipnaaaGreatW21
import Derived.Test.YtkckcgpmnipnaaaGreatSxU
namespace Go.Proofs.YtkckcgpmnipnaaaGreat
set_option maxRecDepth 100000
open Go.RowKit Go.Sort
theorem qlI {w:World} {g:Nat} {cur:Array Value} {e:TypeId} {fr:Nat×Nat} (hg:w.heap[g]?=some (.cells cur e fr)) (F:Array Int) :
 (putRow (Value.int .i64) w g 0 F).heap[g]?=some (.cells (putCells (Value.int .i64) 0 F cur) e fr):=by
 unfold putRow mapBlock
 simp only[Array.getElem?_modify,if_true,hg,Option.map_some,onCells]
theorem qlZ (w:World) (g:Nat) (F:Array Int) {k:Nat} (h:k≠g):(putRow (Value.int .i64) w g 0 F).heap[k]?=w.heap[k]?:=by
 unfold putRow mapBlock
 simp only[Array.getElem?_modify,if_neg (fun e:g=k=>h e.symm)]
theorem qfK (F:List Int) (cur:Array Value) (h:F.length≤cur.size):(putCells (Value.int .i64) 0 F.toArray cur).toList.take F.length=ziV F:=by
 apply List.ext_getElem?
 intro i
 rw[List.getElem?_take]
 by_cases hi:i<F.length
 ·rw[if_pos hi]
  unfold putCells ziV
  simp only[Array.getElem?_toList,Array.getElem?_mapIdx,List.getElem?_map]
  rw[Array.getElem?_eq_getElem (show i<cur.size by omega),Option.map_some,if_pos (by simp;omega),Nat.sub_zero,getElem!_pos F.toArray i (by simpa using hi),List.getElem?_eq_getElem hi]
  simp
 ·rw[if_neg hi,List.getElem?_eq_none (by rw[qaG];omega)]
theorem qfL (F cur):(putCells (Value.int .i64) 0 F cur).size=cur.size:=by unfold putCells;simp
def sortI (g:List Int):List Int:=g.mergeSort fun x y=>decide (x≤y)
theorem qcr (g:List Int):(sortI g).Perm g:=List.mergeSort_perm _ _
theorem qce (g:List Int):(sortI g).length=g.length:=(qcr g).length_eq
theorem qkJ (g:List Int):(sortI g).Pairwise (fun x y=>x≤y):=by
 have:=List.pairwise_mergeSort (le:=fun x y:Int=>decide (x≤y)) (fun a b c h1 h2=>by simp at *;omega) (fun a b=>by simp;omega) g
 exact this.imp fun h=>by simpa using h
theorem qp7 {β:Bl} {n:Nat} {us:List Value} (h:SV.isl β [.ls 0 n] us):∃ v,us=[v]∧β.g 0=some v∧∃ a c,v=.slice a n c:=by
 match us,h with
 | [v0],⟨⟨h0,h1⟩,_⟩=>exact⟨v0,rfl,h0,h1⟩
theorem qfh (l:List Int) (hn:l.length≤1000000):FnM Tryz.prog 182 1 [.ls 0 l.length] [(0,0,zrI l)] (.tuple #[]) 0 ⟨3,1,l.length,ziV l⟩ (ziV (sortI l)):=by
 intro w β us base u hH hdom hargs hu hown hbase hap
 obtain⟨v,rfl,hv0,a0,c0,hv⟩:=qp7 hargs
 rw[hu] at hv0
 cases hv0
 subst hv
 rcases Nat.eq_zero_or_pos l.length with h0 | h0
 ·have hl:l=[]:=List.eq_nil_of_length_eq_zero h0
  subst hl
  refine (Any.slices_Sort_int_none Tryz.sortI a0 c0 w).mono fun e w' ⟨he,hw⟩=>?_
  subst hw
  have e0:ziV (sortI [])=ziV []:=by simp[sortI]
  have hown':=hown
  rw[← e0] at hown'
  exact⟨he,⟨⟨rfl,rfl,rfl,Nat.le_refl _,(fun _ _ _=>rfl)⟩,(fun _ _=>rfl),Nat.le_refl _⟩,hown',fun y hy=>by simp[sortI,ziV] at hy⟩
 ·obtain⟨hlen,hnil | ⟨g,cap,cur,e1,hg,hgc,hnc,hcm,hcs,htk⟩⟩:=hown
  ·have:=hnil.2
   dsimp only at this
   omega
  cases e1
  dsimp only at hlen hgc hnc hcs htk
  have hgs:g<w.heap.size:=(Array.getElem?_eq_some_iff.1 hgc).1
  have hHold:Go.Sort.Holds (Value.int .i64) w g 0 l.toArray:=by
   intro j hj
   have hj':j<l.length:=by simpa using hj
   have h1:cur[j]?=some (iV (l.toArray[j]!)):=by
    have h2:(cur.toList.take (l.length*1))[j]?=(ziV l)[j]?:=by rw[htk]
    rw[List.getElem?_take,if_pos (by omega),Array.getElem?_toList] at h2
    rw[h2,getElem!_pos _ j hj]
    simp[ziV,hj']
   constructor
   ·simp only[World.cell?,hgc,Nat.zero_add,Option.isSome_none,id]
    exact h1
   ·simp[World.frozen?,hgc]
  have hcon:=calls_of_every_depth fun D=>AnyS.slices_Sort_int_alone Tryz.sortI D g 0 c0 l w hHold hgs (by omega)
  refine Calls.mono (show Calls Tryz.prog 182 _ w _ from hcon) fun e w' ⟨he,n,os,hw⟩=>?_
  have hml:(sortI l).length=l.length:=qce l
  have hw':w'=grow (putRow (Value.int .i64) (Sort.ahead w n) g 0 (sortI l).toArray) os:=hw
  clear hw
  have hsz:(putRow (Value.int .i64) (Sort.ahead w n) g 0 (sortI l).toArray).heap.size=w.heap.size:=by rw[size_putRow];rfl
  have hblk:∀ k,k<w.heap.size→w'.heap[k]?=(putRow (Value.int .i64) (Sort.ahead w n) g 0 (sortI l).toArray).heap[k]?:=fun k hk=>by
   rw[hw']
   unfold Sort.grow
   exact Array.getElem?_append_left (by rw[hsz];exact hk)
  have hself:=(hblk g hgs).trans (qlI (w:=Sort.ahead w n) (fr:=(0,0)) hgc _)
  refine⟨he,⟨⟨?_,?_,?_,?_,?_⟩,?_,?_⟩,⟨?_,.inr ⟨g,c0,_,rfl,hg,hself,hnc,hcm,?_,?_⟩⟩,qfk _⟩
  ·rw[hw'];rfl
  ·rw[hw'];rfl
  ·rw[hw'];rfl
  ·rw[hw',size_grow,hsz];omega
  ·intro k hk hkr
   rw[hblk k hk]
   exact qlZ (Sort.ahead w n) g _ fun e=>hkr (by rw[e];rfl)
  ·intro a ha
   rw[hw',frozen?_grow _ _ _ (by rw[hsz];exact ha),frozen?_putRow];rfl
  ·rw[hw'];show w.drawn≤w.drawn+n;omega
  ·rw[qaG,hml,Nat.mul_one]
  ·rw[qfL];exact hcs
  ·dsimp only
   rw[Nat.mul_one,← hml,qfK _ _ (by rw[hcs,hml];omega)]
end Go.Proofs.YtkckcgpmnipnaaaGreat

namespace Go.Proofs.YtkckcgpmnipnaaaGreat
set_option maxRecDepth 100000
open Go.RowKit
theorem qb9 (n:Nat):some (SV.row 4 1 n (qdh [Value.bool false] n))=some (SV.row 4 1 n (zbV (List.replicate n false))):=by rw[que]
theorem qzx {x:Int} (h1:decide (1≤x)=false):Pure Tryz.prog 213 #[iV x] (.bool false):=
 qax (args:=[iV x]) 200 [.t false] (Ai rfl (Ai h1 tI)) (by kernel_rfl)
theorem qBs {x:Int} (h1:decide (1≤x)=true) (h2:decide (x≤200)=false):Pure Tryz.prog 213 #[iV x] (.bool false):=
 qax (args:=[iV x]) 200 [.t true,.t false] (Ai rfl (Ai h1 (Ai h2 tI))) (by kernel_rfl)
theorem qtW {x:Int} (h1:decide (1≤x)=true) (h2:decide (x≤200)=true):Pure Tryz.prog 213 #[iV x] (.bool true):=
 qax (args:=[iV x]) 200 [.t true,.t true] (Ai rfl (Ai h1 (Ai h2 tI))) (by kernel_rfl)
abbrev qfN (b:List Bool) (fr:List Int) (u:List Int):HpL:=[(0,0,zrI u),(1,0,zrB b),(2,0,zrI fr)]
theorem quN {u fr:List Int} {b:List Bool} {x:Int} (h1:decide (0≤x)=false) :
 Fn 320 3 [.ag [.ls 0 u.length,.ls 1 b.length,.ls 2 fr.length],.pv (iV (x))] (qfN b fr u) (.pv (.bool false)) 0 []:=
 Fz [] [.t false]
  tI (Ai h1 tI)
theorem qxB {u fr:List Int} {b:List Bool} {x:Int} (h1:decide (0≤x)=true) (h2:decide (x<(b.length:Int))=false) :
 Fn 320 3 [.ag [.ls 0 u.length,.ls 1 b.length,.ls 2 fr.length],.pv (iV (x))] (qfN b fr u) (.pv (.bool false)) 0 []:=
 Fz [] [.t true,.t false]
  tI (Ai h1 (Ai h2 tI))
theorem qv2 {u fr:List Int} {b:List Bool} {x:Int} (h1:decide (0≤x)=true) (h2:decide (x<(b.length:Int))=true) :
 Fn 320 3 [.ag [.ls 0 u.length,.ls 1 b.length,.ls 2 fr.length],.pv (iV (x))] (qfN b fr u) (.pv (.bool true)) 0 []:=
 Fz [] [.t true,.t true]
  tI (Ai h1 (Ai h2 tI))
abbrev qn0 (b:List Bool) (fr:List Int) (u:List Int):HpL:=[(3,0,.ls 0 u.length),(3,1,.ls 1 b.length),(3,2,.ls 2 fr.length),(0,0,zrI u),(1,0,zrB b),(2,0,zrI fr)]
abbrev qyr (b:List Bool) (k:Nat):TmL:=[(1,.pp 3 0),(7,.ls 1 b.length),(8,.pv (iV (b.length:Int))),(9,.pv (iV (k:Int)))]
theorem qiu {u fr:List Int} {b:List Bool} {x:Int} {k:Nat} (hb:b[k]?=some true) (hu:u[k]?=some x) (hib:0≤(k:Int)∧(k:Int)<(b.length:Int)) (hiu:0≤(k:Int)∧(k:Int)<(u.length:Int)) (hlt:decide ((k:Int)<(b.length:Int))=true) (h1:decide (x<1)=false) (h2:decide (x>1000000)=false) (hs:iV (IntKind.i64.wrap ((k:Int)+1))=iV (((k+1:Nat):Int))) {e:Exit} {tm2:TmL} {hp2:HpL}
 (r:Rl 3 3 277 0 31 4 ([(1,.pp 3 0),(7,.ls 1 b.length),(8,.pv (iV (b.length:Int))),(9,.pv (iV ((k+1:Nat):Int)))]) (qn0 b fr u) e tm2 hp2):Rl 3 3 277 0 31 4 (qyr b k) (qn0 b fr u) e tm2 hp2:=
 RunsL.next [] 300 [.t true,.r (.bool true),.r (iV x),.t false,.r (iV x),.t false,Re hs]
  (Ro (Ai hlt (Ai hib (Ai (qcG hb) (Ai hiu (Ai (qaQ hu) (Ai h1 (Ai hiu (Ai (qaQ hu) (Ai h2 (Ai hs tI))))))))))) r
theorem qlx {u fr:List Int} {b:List Bool} {x:Int} {k:Nat} (hb:b[k]?=some true) (hu:u[k]?=some x) (hib:0≤(k:Int)∧(k:Int)<(b.length:Int)) (hiu:0≤(k:Int)∧(k:Int)<(u.length:Int)) (hlt:decide ((k:Int)<(b.length:Int))=true) (h1:decide (x<1)=true):Rl 3 3 277 0 31 4 (qyr b k) (qn0 b fr u) (.ret) ([(2,.pv (.bool false))]) ([]):=
 RunsL.stop [] 300 [.t true,.r (.bool true),.r (iV x),.t true] (fun h=>by cases h)
  (Ro (Ai hlt (Ai hib (Ai (qcG hb) (Ai hiu (Ai (qaQ hu) (Ai h1 tI)))))))
theorem qk9 {u fr:List Int} {b:List Bool} {x:Int} {k:Nat} (hb:b[k]?=some true) (hu:u[k]?=some x) (hib:0≤(k:Int)∧(k:Int)<(b.length:Int)) (hiu:0≤(k:Int)∧(k:Int)<(u.length:Int)) (hlt:decide ((k:Int)<(b.length:Int))=true) (h1:decide (x<1)=false) (h2:decide (x>1000000)=true):Rl 3 3 277 0 31 4 (qyr b k) (qn0 b fr u) (.ret) ([(2,.pv (.bool false))]) ([]):=
 RunsL.stop [] 300 [.t true,.r (.bool true),.r (iV x),.t false,.r (iV x),.t true] (fun h=>by cases h)
  (Ro (Ai hlt (Ai hib (Ai (qcG hb) (Ai hiu (Ai (qaQ hu) (Ai h1 (Ai hiu (Ai (qaQ hu) (Ai h2 tI))))))))))
theorem qgS {u fr:List Int} {b:List Bool} {x:Int} {k:Nat} (hb:b[k]?=some false) (hu:u[k]?=some x) (hib:0≤(k:Int)∧(k:Int)<(b.length:Int)) (hiu:0≤(k:Int)∧(k:Int)<(u.length:Int)) (hlt:decide ((k:Int)<(b.length:Int))=true) (h1:decide (x<0)=false) (h2:decide (x>1000000)=false) (hs:iV (IntKind.i64.wrap ((k:Int)+1))=iV (((k+1:Nat):Int))) {e:Exit} {tm2:TmL} {hp2:HpL}
 (r:Rl 3 3 277 0 31 4 ([(1,.pp 3 0),(7,.ls 1 b.length),(8,.pv (iV (b.length:Int))),(9,.pv (iV ((k+1:Nat):Int)))]) (qn0 b fr u) e tm2 hp2):Rl 3 3 277 0 31 4 (qyr b k) (qn0 b fr u) e tm2 hp2:=
 RunsL.next [] 300 [.t true,.r (.bool false),.r (iV x),.t false,.r (iV x),.t false,Re hs]
  (Ro (Ai hlt (Ai hib (Ai (qcG hb) (Ai hiu (Ai (qaQ hu) (Ai h1 (Ai hiu (Ai (qaQ hu) (Ai h2 (Ai hs tI))))))))))) r
theorem qjN {u fr:List Int} {b:List Bool} {x:Int} {k:Nat} (hb:b[k]?=some false) (hu:u[k]?=some x) (hib:0≤(k:Int)∧(k:Int)<(b.length:Int)) (hiu:0≤(k:Int)∧(k:Int)<(u.length:Int)) (hlt:decide ((k:Int)<(b.length:Int))=true) (h1:decide (x<0)=true):Rl 3 3 277 0 31 4 (qyr b k) (qn0 b fr u) (.ret) ([(2,.pv (.bool false))]) ([]):=
 RunsL.stop [] 300 [.t true,.r (.bool false),.r (iV x),.t true] (fun h=>by cases h)
  (Ro (Ai hlt (Ai hib (Ai (qcG hb) (Ai hiu (Ai (qaQ hu) (Ai h1 tI)))))))
theorem qjj {u fr:List Int} {b:List Bool} {x:Int} {k:Nat} (hb:b[k]?=some false) (hu:u[k]?=some x) (hib:0≤(k:Int)∧(k:Int)<(b.length:Int)) (hiu:0≤(k:Int)∧(k:Int)<(u.length:Int)) (hlt:decide ((k:Int)<(b.length:Int))=true) (h1:decide (x<0)=false) (h2:decide (x>1000000)=true):Rl 3 3 277 0 31 4 (qyr b k) (qn0 b fr u) (.ret) ([(2,.pv (.bool false))]) ([]):=
 RunsL.stop [] 300 [.t true,.r (.bool false),.r (iV x),.t false,.r (iV x),.t true] (fun h=>by cases h)
  (Ro (Ai hlt (Ai hib (Ai (qcG hb) (Ai hiu (Ai (qaQ hu) (Ai h1 (Ai hiu (Ai (qaQ hu) (Ai h2 tI))))))))))
theorem qCm {u fr:List Int} {b:List Bool} {k:Nat} (hge:decide ((k:Int)<(b.length:Int))=false):Rl 3 3 277 0 31 4 (qyr b k) (qn0 b fr u) (.exit 0) ([]) ([]):=
 RunsL.stop [] 300 [.t false] (fun h=>by cases h)
  (Ro (Ai hge tI))
theorem qGM {u fr:List Int} {b:List Bool} (r0:Rl 3 3 277 0 31 4 ([(1,.pp 3 0),(7,.ls 1 b.length),(8,.pv (iV (b.length:Int))),(9,.pv (iV ((0:Nat):Int)))]) (qn0 b fr u) (.ret) ([(2,.pv (.bool false))]) ([])) :
 Fn 277 3 [.ag [.ls 0 u.length,.ls 1 b.length,.ls 2 fr.length]] (qfN b fr u) (.pv (.bool false)) 0 []:=
 Fz [] [Lf r0]
  tI (Lo r0 [] tI)
theorem qCS {u fr:List Int} {b:List Bool} (r0:Rl 3 3 277 0 31 4 ([(1,.pp 3 0),(7,.ls 1 b.length),(8,.pv (iV (b.length:Int))),(9,.pv (iV ((0:Nat):Int)))]) (qn0 b fr u) (.exit 0) ([]) ([])) :
 Fn 277 3 [.ag [.ls 0 u.length,.ls 1 b.length,.ls 2 fr.length]] (qfN b fr u) (.pv (.bool true)) 0 []:=
 Fz [] [Lf r0]
  tI (Lo r0 [] tI)
abbrev qjY (b:List Bool) (fr:List Int) (g:List Bool) (u:List Int):HpL:=[(3,0,.ls 0 u.length),(3,1,.ls 1 b.length),(3,2,.ls 2 fr.length),(5,0,.ls 4 b.length),(0,0,zrI u),(1,0,zrB b),(2,0,zrI fr),(4,0,.row 4 1 b.length (zbV g))]
abbrev qEK (b:List Bool) (k:Nat):TmL:=[(1,.pp 3 0),(3,.pp 5 0),(12,.ls 1 b.length),(13,.pv (iV (b.length:Int))),(14,.pv (iV (k:Int)))]
theorem qhC {u fr:List Int} {b g:List Bool} {k:Nat} (hb:b[k]?=some true) (hib:0≤(k:Int)∧(k:Int)<(b.length:Int)) (hg:k<g.length) (hlt:decide ((k:Int)<(b.length:Int))=true) (hs:iV (IntKind.i64.wrap ((k:Int)+1))=iV (((k+1:Nat):Int))) {e:Exit} {tm2:TmL} {hp2:HpL}
 (r:Rl 3 3 278 0 36 6 ([(1,.pp 3 0),(3,.pp 5 0),(12,.ls 1 b.length),(13,.pv (iV (b.length:Int))),(14,.pv (iV ((k+1:Nat):Int)))]) ([(3,0,.ls 0 u.length),(3,1,.ls 1 b.length),(3,2,.ls 2 fr.length),(5,0,.ls 4 b.length),(0,0,zrI u),(1,0,zrB b),(2,0,zrI fr),(4,0,.row 4 1 b.length (zbV (g.set k false)))]) e tm2 hp2):Rl 3 3 278 0 36 6 (qEK b k) (qjY b fr g u) e tm2 hp2:=
 RunsL.next [] 300 [.t true,.r (.bool true),.k,.w (zbV (g.set k false)),Re hs]
  (Ro (Ai hlt (Ai hib (Ai (qcG hb) (Ai hib (Ai (qzq g k false hg) (Ai (qf9 g k hg) (Ai hs tI)))))))) r
theorem qgB {u fr:List Int} {b g:List Bool} {k:Nat} (hb:b[k]?=some false) (hib:0≤(k:Int)∧(k:Int)<(b.length:Int)) (hg:k<g.length) (hlt:decide ((k:Int)<(b.length:Int))=true) (hs:iV (IntKind.i64.wrap ((k:Int)+1))=iV (((k+1:Nat):Int))) {e:Exit} {tm2:TmL} {hp2:HpL}
 (r:Rl 3 3 278 0 36 6 ([(1,.pp 3 0),(3,.pp 5 0),(12,.ls 1 b.length),(13,.pv (iV (b.length:Int))),(14,.pv (iV ((k+1:Nat):Int)))]) ([(3,0,.ls 0 u.length),(3,1,.ls 1 b.length),(3,2,.ls 2 fr.length),(5,0,.ls 4 b.length),(0,0,zrI u),(1,0,zrB b),(2,0,zrI fr),(4,0,.row 4 1 b.length (zbV (g.set k true)))]) e tm2 hp2):Rl 3 3 278 0 36 6 (qEK b k) (qjY b fr g u) e tm2 hp2:=
 RunsL.next [] 300 [.t true,.r (.bool false),.k,.w (zbV (g.set k true)),Re hs]
  (Ro (Ai hlt (Ai hib (Ai (qcG hb) (Ai hib (Ai (qzq g k true hg) (Ai (qf9 g k hg) (Ai hs tI)))))))) r
theorem qCw {u fr:List Int} {b g:List Bool} {k:Nat} (hge:decide ((k:Int)<(b.length:Int))=false):Rl 3 3 278 0 36 6 (qEK b k) (qjY b fr g u) (.exit 0) ([(1,.pp 3 0),(3,.pp 5 0)]) (qjY b fr g u):=
 RunsL.stop [] 300 [.t false] (fun h=>by cases h)
  (Ro (Ai hge tI))
abbrev qEf (fr:List Int) (k:Nat):TmL:=[(0,.ls 2 fr.length),(1,.pc 319 [.pp 3 0,.pp 5 0]),(7,.pv (iV (fr.length:Int))),(8,.pv (iV (k:Int)))]
theorem qAu {u fr:List Int} {b g:List Bool} {x:Int} {k:Nat} (hf:fr[k]?=some x) (hif:0≤(k:Int)∧(k:Int)<(fr.length:Int)) (hlt:decide ((k:Int)<(fr.length:Int))=true) (hh:Fn 320 3 [.ag [.ls 0 u.length,.ls 1 b.length,.ls 2 fr.length],.pv (iV (x))] (qfN b fr u) (.pv (.bool false)) 0 []):Rl 3 6 340 0 19 6 (qEf fr k) (qjY b fr g u) (.ret) ([(4,.pv (iV (k:Int)))]) (qjY b fr g u):=
 RunsL.stop [] 300 [.t true,.r (iV x),.k,Cf hh [0,1,2],.k] (fun h=>by cases h)
  (Ro (Ai hlt (Ai hif (Ai (qaQ hf) (Co hh [0,1,2] 6 tI)))))
theorem qyX {u fr:List Int} {b g:List Bool} {x:Int} {k:Nat} (hf:fr[k]?=some x) (hif:0≤(k:Int)∧(k:Int)<(fr.length:Int)) (hlt:decide ((k:Int)<(fr.length:Int))=true) (hh:Fn 320 3 [.ag [.ls 0 u.length,.ls 1 b.length,.ls 2 fr.length],.pv (iV (x))] (qfN b fr u) (.pv (.bool true)) 0 []) (hg:g[x.toNat]?=some false) (hix:0≤x∧x<(b.length:Int)):Rl 3 6 340 0 19 6 (qEf fr k) (qjY b fr g u) (.ret) ([(4,.pv (iV (k:Int)))]) (qjY b fr g u):=
 RunsL.stop [] 300 [.t true,.r (iV x),.k,Cf hh [0,1,2],.k,.r (.bool false),.k] (fun h=>by cases h)
  (Ro (Ai hlt (Ai hif (Ai (qaQ hf) (Co hh [0,1,2] 6 (Ai hix (Ai (qjD hg) tI)))))))
theorem quK {u fr:List Int} {b g:List Bool} {x:Int} {k:Nat} (hf:fr[k]?=some x) (hif:0≤(k:Int)∧(k:Int)<(fr.length:Int)) (hlt:decide ((k:Int)<(fr.length:Int))=true) (hh:Fn 320 3 [.ag [.ls 0 u.length,.ls 1 b.length,.ls 2 fr.length],.pv (iV (x))] (qfN b fr u) (.pv (.bool true)) 0 []) (hg:g[x.toNat]?=some true) (hix:0≤x∧x<(b.length:Int)) (hgl:x.toNat<g.length) (hs:iV (IntKind.i64.wrap ((k:Int)+1))=iV (((k+1:Nat):Int))) {e:Exit} {tm2:TmL} {hp2:HpL}
 (r:Rl 3 6 340 0 19 6 ([(0,.ls 2 fr.length),(1,.pc 319 [.pp 3 0,.pp 5 0]),(7,.pv (iV (fr.length:Int))),(8,.pv (iV ((k+1:Nat):Int)))]) ([(3,0,.ls 0 u.length),(3,1,.ls 1 b.length),(3,2,.ls 2 fr.length),(5,0,.ls 4 b.length),(0,0,zrI u),(1,0,zrB b),(2,0,zrI fr),(4,0,.row 4 1 b.length (zbV (g.set x.toNat false)))]) e tm2 hp2):Rl 3 6 340 0 19 6 (qEf fr k) (qjY b fr g u) e tm2 hp2:=
 RunsL.next [] 300 [.t true,.r (iV x),.k,Cf hh [0,1,2],.k,.r (.bool true),.k,.w (zbV (g.set x.toNat false)),Re hs]
  (Ro (Ai hlt (Ai hif (Ai (qaQ hf) (Co hh [0,1,2] 6 (Ai hix (Ai (qjD hg) (Ai hix (Ai (qzq g x.toNat false hgl) (Ai (qf9 g x.toNat hgl) (Ai hs tI))))))))))) r
theorem qDm {u fr:List Int} {b g:List Bool} {k:Nat} (hge:decide ((k:Int)<(fr.length:Int))=false):Rl 3 6 340 0 19 6 (qEf fr k) (qjY b fr g u) (.exit 0) ([]) (qjY b fr g u):=
 RunsL.stop [] 300 [.t false] (fun h=>by cases h)
  (Ro (Ai hge tI))
abbrev qGa (g:List Bool) (k:Nat):TmL:=[(0,.ls 0 g.length),(1,.pv (.bool true)),(7,.pv (iV (g.length:Int))),(8,.pv (iV (k:Int)))]
theorem qv9 {g:List Bool} {k:Nat} (hg:g[k]?=some true) (hig:0≤(k:Int)∧(k:Int)<(g.length:Int)) (hlt:decide ((k:Int)<(g.length:Int))=true):Rl 1 1 341 0 19 1 (qGa g k) ([(0,0,zrB g)]) (.ret) ([(4,.pv (iV (k:Int)))]) ([]):=
 RunsL.stop [] 300 [.t true,.r (.bool true),.k] (fun h=>by cases h)
  (Ro (Ai hlt (Ai hig (Ai (qcG hg) tI))))
theorem qkF {g:List Bool} {k:Nat} (hg:g[k]?=some false) (hig:0≤(k:Int)∧(k:Int)<(g.length:Int)) (hlt:decide ((k:Int)<(g.length:Int))=true) (hs:iV (IntKind.i64.wrap ((k:Int)+1))=iV (((k+1:Nat):Int))) {e:Exit} {tm2:TmL} {hp2:HpL}
 (r:Rl 1 1 341 0 19 1 ([(0,.ls 0 g.length),(1,.pv (.bool true)),(7,.pv (iV (g.length:Int))),(8,.pv (iV ((k+1:Nat):Int)))]) ([(0,0,zrB g)]) e tm2 hp2):Rl 1 1 341 0 19 1 (qGa g k) ([(0,0,zrB g)]) e tm2 hp2:=
 RunsL.next [] 300 [.t true,.r (.bool false),.k,Re hs]
  (Ro (Ai hlt (Ai hig (Ai (qcG hg) (Ai hs tI))))) r
theorem qz5 {g:List Bool} {k:Nat} (hge:decide ((k:Int)<(g.length:Int))=false):Rl 1 1 341 0 19 1 (qGa g k) ([(0,0,zrB g)]) (.exit 0) ([]) ([]):=
 RunsL.stop [] 300 [.t false] (fun h=>by cases h)
  (Ro (Ai hge tI))
theorem qCh {g:List Bool} {k:Nat} (r0:Rl 1 1 341 0 19 1 ([(0,.ls 0 g.length),(1,.pv (.bool true)),(7,.pv (iV (g.length:Int))),(8,.pv (iV ((0:Nat):Int)))]) ([(0,0,zrB g)]) (.ret) ([(4,.pv (iV (k:Int)))]) ([])) (hk:decide ((k:Int)≥0)=true) :
 Fn 322 1 [.ls 0 g.length,.pv (.bool true)] [(0,0,zrB g)] (.pv (.bool true)) 0 []:=
 Fz [] [.k,Lf r0,.t true]
  tI (Lo r0 [] (Ai hk tI))
theorem qEY {g:List Bool} (r0:Rl 1 1 341 0 19 1 ([(0,.ls 0 g.length),(1,.pv (.bool true)),(7,.pv (iV (g.length:Int))),(8,.pv (iV ((0:Nat):Int)))]) ([(0,0,zrB g)]) (.exit 0) ([]) ([])) :
 Fn 322 1 [.ls 0 g.length,.pv (.bool true)] [(0,0,zrB g)] (.pv (.bool false)) 0 []:=
 Fz [] [.k,Lf r0,.k]
  tI (Lo r0 [] tI)
abbrev qFx (b:List Bool) (fr:List Int) (g:List Bool) (u:List Int):Prop:=Rl 3 3 278 0 36 6 ([(1,.pp 3 0),(3,.pp 5 0),(12,.ls 1 b.length),(13,.pv (iV (b.length:Int))),(14,.pv (iV ((0:Nat):Int)))]) ([(3,0,.ls 0 u.length),(3,1,.ls 1 b.length),(3,2,.ls 2 fr.length),(5,0,.ls 4 b.length),(0,0,zrI u),(1,0,zrB b),(2,0,zrI fr),(4,0,.row 4 1 b.length (zbV (List.replicate b.length false)))]) (.exit 0) ([(1,.pp 3 0),(3,.pp 5 0)]) (qjY b fr g u)
theorem qsz {u fr:List Int} {b g g1:List Bool} {k:Nat} (n0:0≤(b.length:Int)) (n1:(b.length:Int)≤1000000) (r0:qFx b fr g u) (r1:Rl 3 6 340 0 19 6 ([(0,.ls 2 fr.length),(1,.pc 319 [.pp 3 0,.pp 5 0]),(7,.pv (iV (fr.length:Int))),(8,.pv (iV ((0:Nat):Int)))]) (qjY b fr g u) (.ret) ([(4,.pv (iV (k:Int)))]) ([(3,0,.ls 0 u.length),(3,1,.ls 1 b.length),(3,2,.ls 2 fr.length),(5,0,.ls 4 b.length),(0,0,zrI u),(1,0,zrB b),(2,0,zrI fr),(4,0,.row 4 1 b.length (zbV g1))])) (hk:decide ((k:Int)≥0)=true) :
 Fn 278 3 [.ag [.ls 0 u.length,.ls 1 b.length,.ls 2 fr.length]] (qfN b fr u) (.pv (.bool false)) 0 []:=
 Fz [] [Lf r0,.k,.k,Lf r1,.t true,.k]
  tI (Ai n0 (Ai (Eq.refl (b.length:Int)) (Ai n1 (Ai (Lt r0 []) (Ai (Ai (Er (SV.ls 0 u.length)) (Ai (Er (SV.ls 1 b.length)) (Ai (Er (SV.ls 2 fr.length)) (Ai (Er (SV.ls 4 b.length)) (Ai (Er (zrI u)) (Ai (Er (zrB b)) (Ai (Er (zrI fr)) (Ai (qb9 b.length) tI)))))))) (Ai r0 (Lo r1 [] (Ai hk tI))))))))
abbrev qHl (b:List Bool) (fr:List Int) (g:List Bool) (g1:List Bool) (u:List Int):Prop:=Rl 3 6 340 0 19 6 ([(0,.ls 2 fr.length),(1,.pc 319 [.pp 3 0,.pp 5 0]),(7,.pv (iV (fr.length:Int))),(8,.pv (iV ((0:Nat):Int)))]) (qjY b fr g u) (.exit 0) ([]) ([(3,0,.ls 0 u.length),(3,1,.ls 1 b.length),(3,2,.ls 2 fr.length),(5,0,.ls 4 b.length),(0,0,zrI u),(1,0,zrB b),(2,0,zrI fr),(4,0,.row 4 1 b.length (zbV g1))])
theorem qyt {u fr:List Int} {b g g1:List Bool} (n0:0≤(b.length:Int)) (n1:(b.length:Int)≤1000000) (r0:qFx b fr g u) (r1:qHl b fr g g1 u) (hl:g1.length=b.length) (hc:Fn 322 1 [.ls 0 b.length,.pv (.bool true)] [(0,0,.row 4 1 b.length (zbV g1))] (.pv (.bool true)) 0 []) :
 Fn 278 3 [.ag [.ls 0 u.length,.ls 1 b.length,.ls 2 fr.length]] (qfN b fr u) (.pv (.bool false)) 0 []:=
 Fz [] [Lf r0,.k,.k,Lf r1,.k,.k,Cf hc [4],.k]
  tI (Ai n0 (Ai (Eq.refl (b.length:Int)) (Ai n1 (Ai (Lt r0 []) (Ai (Ai (Er (SV.ls 0 u.length)) (Ai (Er (SV.ls 1 b.length)) (Ai (Er (SV.ls 2 fr.length)) (Ai (Er (SV.ls 4 b.length)) (Ai (Er (zrI u)) (Ai (Er (zrB b)) (Ai (Er (zrI fr)) (Ai (qb9 b.length) tI)))))))) (Ai r0 (Lo r1 [] (Co hc [4] 6 tI))))))))
theorem qGb {u fr:List Int} {b g g1:List Bool} (n0:0≤(b.length:Int)) (n1:(b.length:Int)≤1000000) (r0:qFx b fr g u) (r1:qHl b fr g g1 u) (hl:g1.length=b.length) (hc:Fn 322 1 [.ls 0 b.length,.pv (.bool true)] [(0,0,.row 4 1 b.length (zbV g1))] (.pv (.bool false)) 0 []) :
 Fn 278 3 [.ag [.ls 0 u.length,.ls 1 b.length,.ls 2 fr.length]] (qfN b fr u) (.pv (.bool true)) 0 []:=
 Fz [] [Lf r0,.k,.k,Lf r1,.k,.k,Cf hc [4],.k]
  tI (Ai n0 (Ai (Eq.refl (b.length:Int)) (Ai n1 (Ai (Lt r0 []) (Ai (Ai (Er (SV.ls 0 u.length)) (Ai (Er (SV.ls 1 b.length)) (Ai (Er (SV.ls 2 fr.length)) (Ai (Er (SV.ls 4 b.length)) (Ai (Er (zrI u)) (Ai (Er (zrB b)) (Ai (Er (zrI fr)) (Ai (qb9 b.length) tI)))))))) (Ai r0 (Lo r1 [] (Co hc [4] 6 tI))))))))
theorem qoX {u fr:List Int} {b:List Bool} (hz:Pure Tryz.prog 213 #[iV (u.length:Int)] (.bool false)) :
 Fn 224 3 [.ag [.ls 0 u.length,.ls 1 b.length,.ls 2 fr.length]] (qfN b fr u) (.pv (iV (8))) 0 []:=
 Fz [] [Rf hz,.k]
  tI (Ai hz tI)
abbrev qsN (u:List Int):Prop:=Pure Tryz.prog 213 #[iV (u.length:Int)] (.bool true)
theorem qzE {u fr:List Int} {b:List Bool} (hz:qsN u) (hl:(!((b.length:Int)==(u.length:Int)))=true) :
 Fn 224 3 [.ag [.ls 0 u.length,.ls 1 b.length,.ls 2 fr.length]] (qfN b fr u) (.pv (iV (8))) 0 []:=
 Fz [] [Rf hz,.k,.t true]
  tI (Ai hz (Ai hl tI))
theorem qBn {u fr:List Int} {b:List Bool} (hz:qsN u) (hl:(!((b.length:Int)==(u.length:Int)))=false) (hu:Fn 277 3 [.ag [.ls 0 u.length,.ls 1 b.length,.ls 2 fr.length]] (qfN b fr u) (.pv (.bool false)) 0 []) :
 Fn 224 3 [.ag [.ls 0 u.length,.ls 1 b.length,.ls 2 fr.length]] (qfN b fr u) (.pv (iV (8))) 0 []:=
 Fz [] [Rf hz,.k,.t false,Cf hu [0,1,2],.k]
  tI (Ai hz (Ai hl (Co hu [0,1,2] 4 tI)))
theorem qxT {u fr:List Int} {b:List Bool} (hz:qsN u) (hl:(!((b.length:Int)==(u.length:Int)))=false) (hu:Fn 277 3 [.ag [.ls 0 u.length,.ls 1 b.length,.ls 2 fr.length]] (qfN b fr u) (.pv (.bool true)) 0 []) (hf:Fn 278 3 [.ag [.ls 0 u.length,.ls 1 b.length,.ls 2 fr.length]] (qfN b fr u) (.pv (.bool false)) 0 []) :
 Fn 224 3 [.ag [.ls 0 u.length,.ls 1 b.length,.ls 2 fr.length]] (qfN b fr u) (.pv (iV (8))) 0 []:=
 Fz [] [Rf hz,.k,.t false,Cf hu [0,1,2],.k,Cf hf [0,1,2],.k]
  tI (Ai hz (Ai hl (Co hu [0,1,2] 4 (Co hf [0,1,2] 4 tI))))
theorem qAA {u fr:List Int} {b:List Bool} (hz:qsN u) (hl:(!((b.length:Int)==(u.length:Int)))=false) (hu:Fn 277 3 [.ag [.ls 0 u.length,.ls 1 b.length,.ls 2 fr.length]] (qfN b fr u) (.pv (.bool true)) 0 []) (hf:Fn 278 3 [.ag [.ls 0 u.length,.ls 1 b.length,.ls 2 fr.length]] (qfN b fr u) (.pv (.bool true)) 0 []) :
 Fn 224 3 [.ag [.ls 0 u.length,.ls 1 b.length,.ls 2 fr.length]] (qfN b fr u) (.pv (iV (0))) 0 []:=
 Fz [] [Rf hz,.k,.t false,Cf hu [0,1,2],.k,Cf hu [0,1,2],.k]
  tI (Ai hz (Ai hl (Co hu [0,1,2] 4 (Co hf [0,1,2] 4 tI))))
end Go.Proofs.YtkckcgpmnipnaaaGreat

namespace Go.Proofs.YtkckcgpmnipnaaaGreat
set_option maxRecDepth 100000
open Go.RowKit
abbrev qD9 (r:Nat):Value:=.pointer (some ⟨r,0,none⟩)
abbrev fvI (g:FuncId) (cap:Array Value):Value:=.func (.func g) #[] cap
abbrev iA (x:Int):Array Value:=#[iV x]
theorem qfT {α:Type} {X:List α} {k:Nat} {x:α} (h:X[k]?=some x):X.take (k+1)=X.take k++[x]:=by rw[List.take_add_one,h];rfl
theorem qqa {t:TypeId} {n:Nat} (h:(Tryz.prog.info? t).map (fun i=>i.size)=some n):∃ i,Tryz.prog.info? t=some i∧i.size=n:=by
 cases hi:Tryz.prog.info? t with
 | none=>rw[hi] at h;cases h
 | some i=>rw[hi] at h;exact⟨i,rfl,by simpa using h⟩
theorem qg6 {W0:World} {lo:Nat} {β:Bl} {hp:List (Nat×Nat×SV)} {w:World} (H:HRel W0 lo β hp w) {b o:Nat} {s:SV} (h:qaf hp b o=some s) (hs:s.isRow=false):∃ r,β b=some r:=by
 obtain⟨r,u,h1,_⟩:=H.cells b o s h hs
 exact⟨r,h1⟩
noncomputable abbrev aci (p:List Nat):Code:=qt9 Tryz.prog 230 p
noncomputable abbrev aoi:Array Oper:=qDn (aci [1,0,1,0,1,0])
theorem qnq:aci []=.seq (aci [0]) (.seq (.seq (aci [1,0,0]) (.block 0 (.rangeFunc (.tmp 6) #[7] (aci [1,0,1,0,0]) (.block 1 (.region 3 aoi false))))) (aci [1,1])):=by kernel_rfl
abbrev qdW:Value:=.slice none 0 0
section
variable (g:FuncId) (cap:Array Value) (u:Value) (m:Int)
theorem qwd:Seg Tryz.prog 0 0 (aci [0]) 13 0 [(0,.pv qdW),(1,.pv (fvI g cap))] [] .normal 1 [(1,.pv (fvI g cap)),(2,.pp 0 0)] [(0,0,.pv qdW)]:=
 qcW [] 100 [] (by decide) (by kernel_rfl) (Ro tI)
theorem qu7:Seg Tryz.prog 0 1 (aci [1,0,0]) 13 1 [(1,.pv (fvI g cap)),(2,.pp 0 0)] [(0,0,.pv qdW)] .normal 1 [(2,.pp 0 0),(6,.pv (fvI g cap))] [(0,0,.pv qdW)]:=
 qcW [] 100 [] (by decide) (by kernel_rfl) (Ro tI)
theorem ql1:Seg Tryz.prog 1 1 (aci [1,0,1,0,0]) 13 1 [(2,.pp 0 0),(7,.pv (iV m))] [(0,0,.pv u)] .normal 1 [(2,.pp 0 0),(5,.pv (iV m))] [(0,0,.pv u)]:=
 qcW [] 100 [] (by decide) (by kernel_rfl) (Ro tI)
theorem qte:qEg Tryz.prog 1 1 aoi (aoi.toList.take 3) 13 1 [(2,.pp 0 0),(5,.pv (iV m))] [(0,0,.pv u)] 2 [(8,.pv u),(10,.ps 1 0 1 1),(2,.pp 0 0)] [(1,0,.pv (iV m))]:=
 qiV [] 100 [] (by decide) (by kernel_rfl) (Ro tI)
theorem qx6:Seg Tryz.prog 1 1 (aci [1,1]) 13 1 [(2,.pp 0 0)] [(0,0,.pv u)] .ret 1 [(4,.pv u)] []:=
 qcW [] 100 [] (by decide) (by kernel_rfl) (Ro tI)
end
theorem qsT:aoi.toList=aoi.toList.take 3++((aoi.toList.drop 3).take 1++(aoi.toList.drop 4).take 1):=by kernel_rfl
theorem qu3:∃ o:Oper,(aoi.toList.drop 3).take 1=[o]∧o.op=.call { callee:=.builtin .append,args:=#[.tmp 8,.tmp 10],argTypes:=#[30,30] }∧o.dst=some 11∧o.guard=none:=
 ⟨aoi.getD 3 default,by kernel_rfl,by kernel_rfl,by kernel_rfl,by kernel_rfl⟩
theorem qpo:∃ o:Oper,(aoi.toList.drop 4).take 1=[o]∧o.op=.store 30 (.tmp 2) (.tmp 11)∧o.dst=none∧o.guard=none:=
 ⟨aoi.getD 4 default,by kernel_rfl,by kernel_rfl,by kernel_rfl,by kernel_rfl⟩
theorem qpn:(Tryz.prog.info? 30).map (fun i=>i.size)=some 1:=by kernel_rfl
theorem qqR:(Tryz.prog.info? 3).map (fun i=>(i.zero,i.size,i.bytes))=some (some (iV 0),1,8):=by kernel_rfl
theorem qku:Tryz.prog.underlying 30=some (.slice 3):=by kernel_rfl
theorem qwP {P:Program} {r:Option Nat} {o:Oper} {x y:Operand} {t tx e:TypeId} {a:Act} {w:World} {i:TypeInfo} {z v s:Value} {base n m:Nat} {xs news:List Value} {next:Act→World→Prop} {Q:Exit→Act→World→Prop}
 (ho:o.op=.call { callee:=.builtin .append,args:=#[x,y],argTypes:=#[t,tx] }) (hx:a.eval x=v) (hy:a.eval y=s) (ht:P.underlying t=some (.slice e)) (hi:P.info? e=some i) (hz:i.zero=some z) (hzs:z.cells.size=i.size)
 (hown:w.ownsRow base e i.size v n xs) (hb:base≤w.heap.size) (hs:Src P i.size tx s m news w) (hby:i.bytes≤100000000) (hn:n+m≤1000000)
 (h:∀ u w' row,qzc u (n+m)→Upd w w' row→(row=none∨row=v.ownBlock)→w'.ownsRow base e i.size u (n+m) (xs++news)→(∀ k,u.ownBlock=some k→row=some k∨w.heap.size≤k)→next (a.put o.dst u) w'):o.wpIn (FW r) 0 P a w next Q:=by
 obtain⟨u,w',row,hr,h1,h2,h3,h4,h5⟩:=qoZ (P:=P) (ty:=o.type) ht hi hz hzs hown hb hs hby hn
 refine⟨fun _ _=>trivial,?_⟩
 rw[Oper.semAt_eq _ _ _ (by simp[ho])]
 have he:(execOp a.eval o).run P w=.ok (.value u) w':=by
  unfold execOp
  simp only[ho,resolve,invoke,builtin,Sem.run_bind,Sem.run_pure,Result.andThen_ok,List.map_toArray,List.map_cons,List.map_nil,hx,hy,hr]
 rw[he,Oper.uponIn_value]
 exact h u w' row h1 h2 h3 h4 h5
theorem Keep.updI {w w':World} {row:Option Nat} (h:Upd w w' row):Keep (fun b=>some b≠row) w w':=⟨h.g.os,h.g.tape,h.g.output,h.g.size,h.dr,fun k hk hs=>h.g.block k hk hs⟩
theorem qbt {w w':World} {base:Nat} {e:TypeId} {es n:Nat} {u:Value} {xs:List Value} (h:w.ownsRow base e es u n xs) {S:Nat→Prop} (k:Keep S w w') (hs:∀ b,u.ownBlock=some b→S b):w'.ownsRow base e es u n xs:=
 qbg h fun j hj=>k.block j (h.lt j hj).2 (hs j hj)
theorem qiW {u:Value} {n:Nat} (h:qzc u n):u.oneCell'=true:=by obtain⟨a,c,rfl⟩:=h;rfl
theorem qeK {W:World} {gf:FuncId} {lb:Array Value} {X:List Int} {B:Nat→Prop} (eg:qdR Tryz.prog gf=true) (hs:SeqC Tryz.prog gf lb (X.map iA) B W) (hB:∀ b,B b→b<W.heap.size) (hn:X.length≤100000) :
 Calls Tryz.prog 230 #[qdW,fvI gf lb] W fun e w'=>∃ v,e=.returned v∧Gr W w'∧w'.ownsRow W.heap.size 3 1 v X.length (ziV X)∧(X=[]→v=qdW):=by
 refine qkg (c:=aci []) Tryz.func230 (by kernel_rfl) ?_
 have H0:HRel W 0 (qgn []) [] W:=qdH (rs:=[]) (by simp) (by simp) trivial
 have R0:=qiq (n:=13) (args:=[.pv qdW,.pv (fvI gf lb)]) (us:=[qdW,fvI gf lb]) H0 (qdg []) ⟨rfl,rfl,trivial⟩ (by simp)
 rw[qnq]
 refine wpIn_seq (qwd gf lb none W _ _ W _ R0 fun β1 a1 w1 hle1 hd1 R1=>?_)
 refine wpIn_seq (wpIn_seq (qu7 gf lb none W β1 a1 w1 _ R1 fun β5 a5 w5 hle5 hd5 R5=>?_))
 have hd:a5.defers=[]:=hd5.trans hd1
 have hg:Gr W w5:=R5.h.gr
 obtain⟨rs,es⟩:=qg6 R5.h (b:=0) (o:=0) rfl rfl
 have cs:=quh R5.h (b:=0) (o:=0) rfl es
 have ns:=R5.h.new 0 rs (by omega) es
 have t6:a5.tmps.getD 6 undef=fvI gf lb:=R5.t.tmps 6
 obtain⟨r',e',t2⟩:∃ r,β5 0=some r∧a5.tmps.getD 2 undef=qD9 r:=R5.t.tmps 2
 rw[es] at e';cases e'
 have hsz:a5.tmps.size=13:=R5.t.size
 have hsg:=hg.size
 refine wpIn_block (qoP t6 eg (hs.later (Keep.of_gr hg _)) (· = rs) (fun b hb=>⟨by rw[hb];exact cs.lt,fun h=>by have:=hB _ h;omega⟩) (fun b hb=>by have:=hB b hb;omega) (fun x hx=>by
  obtain⟨m,_,rfl⟩:=List.mem_map.1 hx
  rfl)
  (fun k T w=>∃ u,Cel w rs 0 u∧Gr W w∧w.ownsRow W.heap.size 3 1 u (X.take k).length (ziV (X.take k))∧(∀ b,T b↔b=rs∨u.ownBlock=some b)∧u.ownBlock≠some rs∧(X.take k=[]→u=qdW)) ?_ ⟨qdW,cs,hg,World.ownsRow_nil _ _ _ _,fun b=>⟨fun h=>Or.inl h,fun h=>h.elim id fun h=>by cases h⟩,(fun h=>by cases h),fun _=>rfl⟩ ?_ ?_)
 ·rintro k T u1 u2 ⟨u,h1,h2,h3,h4,h5,h6⟩ hk
  exact⟨u,h1.keep hk (Or.inr ((h4 _).2 (Or.inl rfl))),(hk.mono fun i _ h=>Or.inl (by have:i<W.heap.size:=h;omega)).gr h2,qbt h3 hk fun b hb=>Or.inr ((h4 b).2 (Or.inr hb)),h4,h5,h6⟩
 ·rintro lr k x Wr T rfl hx hszr hT1 hT2 ⟨u,cu,hgr,ho,hT,hnr,_⟩
  obtain⟨m,hm,rfl⟩:∃ m,X[k]?=some m∧x=iA m:=by
   rw[List.getElem?_map] at hx
   cases hm:X[k]? with
   | none=>rw[hm] at hx;cases hx
   | some m=>rw[hm] at hx;cases hx;exact⟨m,rfl,rfl⟩
  have hk1:k<X.length:=(List.getElem?_eq_some_iff.1 hm).1
  have hTs:T rs:=(hT rs).2 (Or.inl rfl)
  have hact:({ tmps:=((#[7]:Array Tmp).zip (iA m)).foldl (fun t (p,v)=>t.setIfInBounds p v) a5.tmps,defers:=[] }:Act)=clr (a5.put (some 7) (iV m)):=by simp[iA,clr,Act.put]
  rw[hact]
  have u1:=qiW (qe8 ho)
  have R6:Rel Wr 1 (qgn [rs]) (qaT 13 1 [(2,.pp 0 0),(7,.pv (iV m))] [(0,0,.pv u)] []) (clr (clr (a5.put (some 7) (iV m)))) Wr:=
   qnz (qdH (rs:=[rs]) (by simp) (by simpa using cu.lt) ⟨⟨rs,_,rfl,rfl,cu,u1⟩,trivial⟩) (qdg [rs]) (Nat.le_refl _) (by simp[clr,Act.put,hsz]) ⟨⟨rs,rfl,by simp[clr,Act.put,Array.getElem?_setIfInBounds_ne];simpa using t2⟩,by
    show (clr (a5.put (some 7) (iV m))).tmps.getD 7 undef=(iV m)
    simp[clr,Act.put,hsz,Array.getD_eq_getD_getElem?],trivial⟩
  refine ql1 u m (some _) Wr _ (clr (a5.put (some 7) (iV m))) Wr _ R6 fun β7 a7 w7 hle7 hd7 R7=>?_
  have hg7:Gr Wr w7:=R7.h.gr
  refine⟨Keep.of_gr hg7 _,fun W2 hk2 hs2=>?_⟩
  have e70:β7 0=some rs:=Bl.leU_f hle7 (by omega) rfl
  have hrl:=hT1 rs hTs
  have cu2:Cel W2 rs 0 u:=(cu.gr hg7).keep hk2 hrl.2.2
  have hsz7:a7.tmps.size=13:=R7.t.size
  obtain⟨r',e',t2'⟩:∃ r,β7 0=some r∧a7.tmps.getD 2 undef=qD9 r:=R7.t.tmps 2
  rw[e70] at e';cases e'
  have t5':a7.tmps.getD 5 undef=iV m:=R7.t.tmps 5
  have ho2:W2.ownsRow W.heap.size 3 1 u (X.take k).length (ziV (X.take k)):=qbt (qbt ho (Keep.of_gr hg7 (fun _=>True)) fun _ _=>trivial) hk2 fun b hb=>(hT1 b ((hT b).2 (Or.inr hb))).2.2
  have hgr2:Gr W W2:=(hk2.mono fun i _ h=>by show i≠_;have:i<W.heap.size:=h;omega).gr (hgr.trans hg7)
  have R8:Rel W2 1 (qgn [rs]) (qaT 13 1 [(2,.pp 0 0),(5,.pv (iV m))] [(0,0,.pv u)] []) (clr a7) W2:=
   qnz (qdH (rs:=[rs]) (by simp) (by simpa using cu2.lt) ⟨⟨rs,_,rfl,rfl,cu2,u1⟩,trivial⟩) (qdg [rs]) (Nat.le_refl _) hsz7 ⟨⟨rs,rfl,t2'⟩,t5',trivial⟩
  refine wpIn_block (wpIn_region_list ?_)
  obtain⟨o,hol,hoo,hdst,hgd⟩:=qu3
  obtain⟨p,hpl,hpo,hpd,hpg⟩:=qpo
  rw[qsT,hol,hpl]
  refine qte u m (some _) W2 _ a7 W2 _ _ R8 fun β9 a9 w9 hle9 hd9 R9=>qhi hgd ?_
  have hg9:Gr W2 w9:=R9.h.gr
  have t8:a9.tmps.getD 8 undef=u:=R9.t.tmps 8
  obtain⟨rn,en,t10⟩:∃ r,β9 1=some r∧a9.tmps.getD 10 undef=.slice (some ⟨r,0,none⟩) 1 1:=R9.t.tmps 10
  obtain⟨r',e',t2''⟩:∃ r,β9 0=some r∧a9.tmps.getD 2 undef=qD9 r:=R9.t.tmps 2
  have e90:β9 0=some rs:=Bl.leU_f hle9 (by omega) rfl
  rw[e90] at e';cases e'
  have c0:=quh R9.h (b:=1) (o:=0) rfl en
  obtain⟨inf,hinf,hz,hsi,hby⟩:∃ i,Tryz.prog.info? 3=some i∧i.zero=some (iV 0)∧i.size=1∧i.bytes=8:=by
   have h:=qqR
   cases hi:Tryz.prog.info? 3 with
   | none=>rw[hi] at h;cases h
   | some i=>rw[hi] at h;simp only[Option.map_some,Option.some.injEq,Prod.mk.injEq] at h;exact⟨i,rfl,h.1,h.2.1,h.2.2⟩
  have hlk:(X.take k).length=k:=by rw[List.length_take];omega
  have hsrc:Src Tryz.prog inf.size 30 (.slice (some ⟨rn,0,none⟩) 1 1) 1 ([iV m]) w9:=Src.ofSlice w9 qku ⟨rn,0,none⟩ 1 1 ([iV m]) (by rw[hsi];rfl) (fun j v hj=>by
   rw[Addr.add_lit,Nat.zero_add]
   match j,hj with
   | 0,hj=>cases hj;exact c0.1
   | j+1,hj=>simp at hj) (fun v hv=>by simp at hv;subst hv;rfl)
  have ho9:=qbt ho2 (Keep.of_gr hg9 (fun _=>True)) fun _ _=>trivial
  refine qwP hoo t8 t10 qku hinf hz (by rw[hsi];rfl) (by rw[hsi];exact ho9) (by have h1:=hgr2.size;have h2:=hg9.size;omega) hsrc (by rw[hby];decide) (by rw[hlk];omega) fun u' w10 row hsl hupd hrow hown hnew=>qhi hpg ?_
  rw[hsi] at hown
  have k10:=Keep.updI hupd
  have hs9:=hg9.size
  have hs10:=k10.size
  have hrs10:∀ b,row=some b→b≠rs:=fun b hb e=>by
   rcases hrow with h | h
   ·rw[h] at hb;cases hb
   ·rw[h,e] at hb;exact hnr hb
  have cu10:Cel w10 rs 0 u:=(cu2.gr hg9).keep k10 fun e=>hrs10 rs e.symm rfl
  have hnr':u'.ownBlock≠some rs:=fun e=>by
   rcases hnew rs e with h | h
   ·exact hrs10 rs h rfl
   ·have:=cu2.lt;omega
  obtain⟨inf2,hinf2,hisz⟩:=qqa qpn
  have u1':=qiW hsl
  have hcells:u'.cells.toList=[u']:=by obtain⟨a',c',rfl⟩:=hsl;rfl
  have hsiz:u'.cells.size=1:=by obtain⟨a',c',rfl⟩:=hsl;rfl
  have hx2:(a9.put o.dst u').eval (.tmp 2)=.pointer (some ⟨rs,0,none⟩):=by
   rw[hdst]
   show (a9.put (some 11) u').tmps.getD 2 undef=_
   rw[qdO _ _ _ _ _ (by rw[show a9.tmps.size=13 from R9.t.size];decide),if_neg (by decide)]
   exact t2''
  have hx11:(a9.put o.dst u').eval (.tmp 11)=u':=by
   rw[hdst]
   show (a9.put (some 11) u').tmps.getD 11 undef=_
   rw[qdO _ _ _ _ _ (by rw[show a9.tmps.size=13 from R9.t.size];decide),if_pos rfl]
  refine qs3 hpo hx2 hx11 (us:=[u]) hinf2 (by rw[hisz];exact hsiz) (by rw[hcells];simpa using u1') (fun j v hj=>?_) (by rw[hisz];rfl) ?_
  ·match j,hj with
   | 0,hj=>cases hj;exact cu10
   | j+1,hj=>simp at hj
  ·rw[hcells]
   have hks:Keep (fun b=>b≠rs) w10 (w10.setCells rs 0 [u']):=Keep.setCells rs _ 0 w10
   have hset:=qvu (w:=w10) (r:=rs) (o:=0) (us:=[u]) (vs:=[u']) (fun j v hj=>by
    match j,hj with
    | 0,hj=>cases hj;exact cu10
    | j+1,hj=>simp at hj) rfl (j:=0) rfl
   have hg10:Gr W w10:=Upd.gr (hgr2.trans hg9) hupd fun j hj=>by
    rcases hrow with h | h
    ·rw[h] at hj;cases hj
    ·rw[h] at hj;exact (ho.lt j hj).1
   refine⟨rfl,fun b=>b=rs∨u'.ownBlock=some b,⟨u',hset,(hks.mono fun i _ h=>by show i≠rs;have:i<W.heap.size:=h;omega).gr hg10,?_,fun _=>Iff.rfl,hnr',fun h=>by rw[qfT hm] at h;simp at h⟩,?_,?_⟩
   ·rw[qfT hm,List.length_append,qaW]
    exact qbt hown hks fun b hb e=>hnr' (by rw[hb,e])
   ·refine ((Keep.of_gr hg9 _).trans (k10.mono fun i _ h=>?_)).trans (hks.mono fun i _ h=>fun e=>h ((hT i).2 (Or.inl e)))
    intro e
    rcases hrow with h' | h'
    ·rw[h'] at e;cases e
    ·exact h ((hT i).2 (Or.inr (by rw[← h',e])))
   ·intro b hb
    have hsw:(w10.setCells rs 0 [u']).heap.size=w10.heap.size:=qbO rs _ 0 w10
    show b<(w10.setCells rs 0 [u']).heap.size∧_
    rw[hsw]
    rcases hb with rfl | hb
    ·exact⟨cu10.lt,Or.inl hTs⟩
    ·refine⟨(hown.lt b hb).2,?_⟩
     rcases hnew b hb with h | h
     ·rcases hrow with h' | h'
      ·rw[h'] at h;cases h
      ·exact Or.inl ((hT b).2 (Or.inr (by rw[← h',h])))
     ·exact Or.inr (by omega)
 ·rintro w6 T ⟨u,cu,hgr,ho,hT,hnr,hem⟩ hG hnT hD hk6
  rw[List.length_map,List.take_length] at ho hem
  have u1:=qiW (qe8 ho)
  have R7:Rel w6 1 (qgn [rs]) (qaT 13 1 [(2,.pp 0 0)] [(0,0,.pv u)] []) (clr { a5 with defers:={ target:=.collected w5.heap.size,args:=#[] }::a5.defers }) w6:=
   qnz (qdH (rs:=[rs]) (by simp) (by simpa using cu.lt) ⟨⟨rs,_,rfl,rfl,cu,u1⟩,trivial⟩) (qdg [rs]) (Nat.le_refl _) hsz ⟨⟨rs,rfl,t2⟩,trivial⟩
  show (aci [1,1]).wpIn (FW none) 0 Tryz.prog _ _ w6
  refine qx6 u none w6 _ _ w6 _ R7 fun β8 a8 w8 hle8 hd8 R8=>?_
  have hg8:Gr w6 w8:=R8.h.gr
  have hkp:Keep (·≠w5.heap.size) w8 (w8.putObj w5.heap.size (.deferred none)):=Keep.putObj _ _ _
  have R9:Rel _ 0 (β8.cut 0) (qaT 13 0 [(4,.pv u)] [] []) (clr a8) (w8.putObj w5.heap.size (.deferred none)):=
   R8.later hkp (by kernel_rfl) (by kernel_rfl) (by kernel_rfl) (fun b r hb _=>by omega) (fun b o e es n xs v hl=>by cases hl)
  obtain⟨v,hv,hx⟩:=qiU (P:=Tryz.prog) (fn:=Tryz.f230) (x:=.pv u) R9 (by kernel_rfl)
  refine qmg (D:=w5.heap.size) (by rw[hd8,hd]) ((Keep.of_gr hg8 (fun _=>True)).at hD trivial) ⟨v,hv,v,rfl,?_,?_,fun h=>(show v=u from hx).trans (hem h)⟩
  ·exact (hkp.mono fun i _ h=>by show i≠_;have:i<W.heap.size:=h;omega).gr (hgr.trans hg8)
  ·rw[show v=u from hx]
   exact qbt (qbt ho (Keep.of_gr hg8 (fun _=>True)) fun _ _=>trivial) hkp fun b hb=>(hnT b ((hT b).2 (Or.inr hb))).1
end Go.Proofs.YtkckcgpmnipnaaaGreat
