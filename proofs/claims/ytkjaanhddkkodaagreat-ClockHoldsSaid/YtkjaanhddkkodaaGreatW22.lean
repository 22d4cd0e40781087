/-
  Joined: Si, Zb, Rt, Rw. Conditions: none.
-/
import Derived.Lib.SortBridge
import Derived.Test.YtkjaanhddkkodaaGreatSi0
import Derived.Test.YtkjaanhddkkodaaGreatW21
import Derived.Test.YtkjaanhddkkodaaGreatW18
namespace Go.Proofs.YtkjaanhddkkodaaGreat
set_option maxRecDepth 100000
open Go.RowKit Go.Sort
theorem qkv {w:World} {g:Nat} {cur:Array Value} {e:TypeId} {fr:Nat×Nat} (hg:w.heap[g]?=some (.cells cur e fr)) (F:Array Int) :
 (putRow (Value.int .i64) w g 0 F).heap[g]?=some (.cells (putCells (Value.int .i64) 0 F cur) e fr):=by
 unfold putRow mapBlock
 simp only[Array.getElem?_modify,if_true,hg,Option.map_some,onCells]
theorem qlt (w:World) (g:Nat) (F:Array Int) {k:Nat} (h:k≠g):(putRow (Value.int .i64) w g 0 F).heap[k]?=w.heap[k]?:=by
 unfold putRow mapBlock
 simp only[Array.getElem?_modify,if_neg (fun e:g=k=>h e.symm)]
theorem qfv (F:List Int) (cur:Array Value) (h:F.length≤cur.size):(putCells (Value.int .i64) 0 F.toArray cur).toList.take F.length=ziV F:=by
 apply List.ext_getElem?
 intro i
 rw[List.getElem?_take]
 by_cases hi:i<F.length
 ·rw[if_pos hi]
  unfold putCells ziV
  simp only[Array.getElem?_toList,Array.getElem?_mapIdx,List.getElem?_map]
  rw[Array.getElem?_eq_getElem (show i<cur.size by omega),Option.map_some,if_pos (by simp;omega),Nat.sub_zero,getElem!_pos F.toArray i (by simpa using hi),List.getElem?_eq_getElem hi]
  simp
 ·rw[if_neg hi,List.getElem?_eq_none (by rw[qaG];omega)]
theorem qfD (F cur):(putCells (Value.int .i64) 0 F cur).size=cur.size:=by unfold putCells;simp
def sortI (g:List Int):List Int:=g.mergeSort fun x y=>decide (x≤y)
theorem qd2 (g:List Int):(sortI g).Perm g:=List.mergeSort_perm _ _
theorem qcY (g:List Int):(sortI g).length=g.length:=(qd2 g).length_eq
theorem qqV (g:List Int):(sortI g).Pairwise (fun x y=>x≤y):=by
 have:=List.pairwise_mergeSort (le:=fun x y:Int=>decide (x≤y)) (fun a b c h1 h2=>by simp at *;omega) (fun a b=>by simp;omega) g
 exact this.imp fun h=>by simpa using h
theorem qqW {β:Bl} {n:Nat} {us:List Value} (h:SV.isl β [.ls 0 n] us):∃ v,us=[v]∧β.g 0=some v∧∃ a c,v=.slice a n c:=by
 match us,h with
 | [v0],⟨⟨h0,h1⟩,_⟩=>exact⟨v0,rfl,h0,h1⟩
theorem qh6 (l:List Int) (hn:l.length≤1000000):FnM Tryz.prog 211 1 [.ls 0 l.length] [(0,0,zrI l)] (.tuple #[]) 0 ⟨3,1,l.length,ziV l⟩ (ziV (sortI l)):=by
 intro w β us base u hH hdom hargs hu hown hbase hap
 obtain⟨v,rfl,hv0,a0,c0,hv⟩:=qqW hargs
 rw[hu] at hv0
 cases hv0
 subst hv
 rcases Nat.eq_zero_or_pos l.length with h0 | h0
 ·have hl:l=[]:=List.eq_nil_of_length_eq_zero h0
  subst hl
  refine (Any.slices_Sort_int_none Tryz.sortI a0 c0 w).mono fun e w' ⟨he,hw⟩=>?_
  subst hw
  have e0:ziV (sortI [])=ziV []:=by simp[sortI]
  have hown':=hown
  rw[← e0] at hown'
  exact⟨he,⟨⟨rfl,rfl,rfl,Nat.le_refl _,(fun _ _ _=>rfl)⟩,(fun _ _=>rfl),Nat.le_refl _⟩,hown',fun y hy=>by simp[sortI,ziV] at hy⟩
 ·obtain⟨hlen,hnil | ⟨g,cap,cur,e1,hg,hgc,hnc,hcm,hcs,htk⟩⟩:=hown
  ·have:=hnil.2
   dsimp only at this
   omega
  cases e1
  dsimp only at hlen hgc hnc hcs htk
  have hgs:g<w.heap.size:=(Array.getElem?_eq_some_iff.1 hgc).1
  have hHold:Go.Sort.Holds (Value.int .i64) w g 0 l.toArray:=by
   intro j hj
   have hj':j<l.length:=by simpa using hj
   have h1:cur[j]?=some (iV (l.toArray[j]!)):=by
    have h2:(cur.toList.take (l.length*1))[j]?=(ziV l)[j]?:=by rw[htk]
    rw[List.getElem?_take,if_pos (by omega),Array.getElem?_toList] at h2
    rw[h2,getElem!_pos _ j hj]
    simp[ziV,hj']
   constructor
   ·simp only[World.cell?,hgc,Nat.zero_add,Option.isSome_none,id]
    exact h1
   ·simp[World.frozen?,hgc]
  have hcon:=calls_of_every_depth fun D=>AnyS.slices_Sort_int_alone Tryz.sortI D g 0 c0 l w hHold hgs (by omega)
  refine Calls.mono (show Calls Tryz.prog 211 _ w _ from hcon) fun e w' ⟨he,n,os,hw⟩=>?_
  have hml:(sortI l).length=l.length:=qcY l
  have hw':w'=grow (putRow (Value.int .i64) (Sort.ahead w n) g 0 (sortI l).toArray) os:=hw
  clear hw
  have hsz:(putRow (Value.int .i64) (Sort.ahead w n) g 0 (sortI l).toArray).heap.size=w.heap.size:=by rw[size_putRow];rfl
  have hblk:∀ k,k<w.heap.size→w'.heap[k]?=(putRow (Value.int .i64) (Sort.ahead w n) g 0 (sortI l).toArray).heap[k]?:=fun k hk=>by
   rw[hw']
   unfold Sort.grow
   exact Array.getElem?_append_left (by rw[hsz];exact hk)
  have hself:=(hblk g hgs).trans (qkv (w:=Sort.ahead w n) (fr:=(0,0)) hgc _)
  refine⟨he,⟨⟨?_,?_,?_,?_,?_⟩,?_,?_⟩,⟨?_,.inr ⟨g,c0,_,rfl,hg,hself,hnc,hcm,?_,?_⟩⟩,qj2 _⟩
  ·rw[hw'];rfl
  ·rw[hw'];rfl
  ·rw[hw'];rfl
  ·rw[hw',size_grow,hsz];omega
  ·intro k hk hkr
   rw[hblk k hk]
   exact qlt (Sort.ahead w n) g _ fun e=>hkr (by rw[e];rfl)
  ·intro a ha
   rw[hw',frozen?_grow _ _ _ (by rw[hsz];exact ha),frozen?_putRow];rfl
  ·rw[hw'];show w.drawn≤w.drawn+n;omega
  ·rw[qaG,hml,Nat.mul_one]
  ·rw[qfD];exact hcs
  ·dsimp only
   rw[Nat.mul_one,← hml,qfv _ _ (by rw[hcs,hml];omega)]
end Go.Proofs.YtkjaanhddkkodaaGreat

namespace Go.Proofs.YtkjaanhddkkodaaGreat
set_option maxRecDepth 100000
open Go.RowKit
theorem qcw (n:Nat):some (SV.row 4 1 n (qc3 [Value.bool false] n))=some (SV.row 4 1 n (zbV (List.replicate n false))):=by rw[qsa]
theorem qzH {x:Int} (h1:decide (1≤x)=false):Pure Tryz.prog 145 #[iV x] (.bool false):=
 qaz (args:=[iV x]) 200 [.t false] (Ai rfl (Ai h1 tI)) (by kernel_rfl)
theorem qzG {x:Int} (h1:decide (1≤x)=true) (h2:decide (x≤200)=false):Pure Tryz.prog 145 #[iV x] (.bool false):=
 qaz (args:=[iV x]) 200 [.t true,.t false] (Ai rfl (Ai h1 (Ai h2 tI))) (by kernel_rfl)
theorem qr3 {x:Int} (h1:decide (1≤x)=true) (h2:decide (x≤200)=true):Pure Tryz.prog 145 #[iV x] (.bool true):=
 qaz (args:=[iV x]) 200 [.t true,.t true] (Ai rfl (Ai h1 (Ai h2 tI))) (by kernel_rfl)
abbrev qfz (b:List Bool) (fr:List Int) (u:List Int):HpL:=[(0,0,zrI u),(1,0,zrB b),(2,0,zrI fr)]
theorem qww {u fr:List Int} {b:List Bool} {x:Int} (h1:decide (0≤x)=false) :
 Fn 231 3 [.ag [.ls 0 u.length,.ls 1 b.length,.ls 2 fr.length],.pv (iV (x))] (qfz b fr u) (.pv (.bool false)) 0 []:=
 Fz [] [.t false]
  tI (Ai h1 tI)
theorem qun {u fr:List Int} {b:List Bool} {x:Int} (h1:decide (0≤x)=true) (h2:decide (x<(b.length:Int))=false) :
 Fn 231 3 [.ag [.ls 0 u.length,.ls 1 b.length,.ls 2 fr.length],.pv (iV (x))] (qfz b fr u) (.pv (.bool false)) 0 []:=
 Fz [] [.t true,.t false]
  tI (Ai h1 (Ai h2 tI))
theorem qwy {u fr:List Int} {b:List Bool} {x:Int} (h1:decide (0≤x)=true) (h2:decide (x<(b.length:Int))=true) :
 Fn 231 3 [.ag [.ls 0 u.length,.ls 1 b.length,.ls 2 fr.length],.pv (iV (x))] (qfz b fr u) (.pv (.bool true)) 0 []:=
 Fz [] [.t true,.t true]
  tI (Ai h1 (Ai h2 tI))
abbrev qns (b:List Bool) (fr:List Int) (u:List Int):HpL:=[(3,0,.ls 0 u.length),(3,1,.ls 1 b.length),(3,2,.ls 2 fr.length),(0,0,zrI u),(1,0,zrB b),(2,0,zrI fr)]
abbrev qvU (b:List Bool) (k:Nat):TmL:=[(1,.pp 3 0),(7,.ls 1 b.length),(8,.pv (iV (b.length:Int))),(9,.pv (iV (k:Int)))]
theorem qhT {u fr:List Int} {b:List Bool} {x:Int} {k:Nat} (hb:b[k]?=some true) (hu:u[k]?=some x) (hib:0≤(k:Int)∧(k:Int)<(b.length:Int)) (hiu:0≤(k:Int)∧(k:Int)<(u.length:Int)) (hlt:decide ((k:Int)<(b.length:Int))=true) (h1:decide (x<1)=false) (h2:decide (x>1000000)=false) (hs:iV (IntKind.i64.wrap ((k:Int)+1))=iV (((k+1:Nat):Int))) {e:Exit} {tm2:TmL} {hp2:HpL}
 (r:Rl 3 3 207 0 31 4 ([(1,.pp 3 0),(7,.ls 1 b.length),(8,.pv (iV (b.length:Int))),(9,.pv (iV ((k+1:Nat):Int)))]) (qns b fr u) e tm2 hp2):Rl 3 3 207 0 31 4 (qvU b k) (qns b fr u) e tm2 hp2:=
 RunsL.next [] 300 [.t true,.r (.bool true),.r (iV x),.t false,.r (iV x),.t false,Re hs]
  (Ro (Ai hlt (Ai hib (Ai (qc1 hb) (Ai hiu (Ai (qbe hu) (Ai h1 (Ai hiu (Ai (qbe hu) (Ai h2 (Ai hs tI))))))))))) r
theorem qkw {u fr:List Int} {b:List Bool} {x:Int} {k:Nat} (hb:b[k]?=some true) (hu:u[k]?=some x) (hib:0≤(k:Int)∧(k:Int)<(b.length:Int)) (hiu:0≤(k:Int)∧(k:Int)<(u.length:Int)) (hlt:decide ((k:Int)<(b.length:Int))=true) (h1:decide (x<1)=true):Rl 3 3 207 0 31 4 (qvU b k) (qns b fr u) (.ret) ([(2,.pv (.bool false))]) ([]):=
 RunsL.stop [] 300 [.t true,.r (.bool true),.r (iV x),.t true] (fun h=>by cases h)
  (Ro (Ai hlt (Ai hib (Ai (qc1 hb) (Ai hiu (Ai (qbe hu) (Ai h1 tI)))))))
theorem qls {u fr:List Int} {b:List Bool} {x:Int} {k:Nat} (hb:b[k]?=some true) (hu:u[k]?=some x) (hib:0≤(k:Int)∧(k:Int)<(b.length:Int)) (hiu:0≤(k:Int)∧(k:Int)<(u.length:Int)) (hlt:decide ((k:Int)<(b.length:Int))=true) (h1:decide (x<1)=false) (h2:decide (x>1000000)=true):Rl 3 3 207 0 31 4 (qvU b k) (qns b fr u) (.ret) ([(2,.pv (.bool false))]) ([]):=
 RunsL.stop [] 300 [.t true,.r (.bool true),.r (iV x),.t false,.r (iV x),.t true] (fun h=>by cases h)
  (Ro (Ai hlt (Ai hib (Ai (qc1 hb) (Ai hiu (Ai (qbe hu) (Ai h1 (Ai hiu (Ai (qbe hu) (Ai h2 tI))))))))))
theorem qgW {u fr:List Int} {b:List Bool} {x:Int} {k:Nat} (hb:b[k]?=some false) (hu:u[k]?=some x) (hib:0≤(k:Int)∧(k:Int)<(b.length:Int)) (hiu:0≤(k:Int)∧(k:Int)<(u.length:Int)) (hlt:decide ((k:Int)<(b.length:Int))=true) (h1:decide (x<0)=false) (h2:decide (x>1000000)=false) (hs:iV (IntKind.i64.wrap ((k:Int)+1))=iV (((k+1:Nat):Int))) {e:Exit} {tm2:TmL} {hp2:HpL}
 (r:Rl 3 3 207 0 31 4 ([(1,.pp 3 0),(7,.ls 1 b.length),(8,.pv (iV (b.length:Int))),(9,.pv (iV ((k+1:Nat):Int)))]) (qns b fr u) e tm2 hp2):Rl 3 3 207 0 31 4 (qvU b k) (qns b fr u) e tm2 hp2:=
 RunsL.next [] 300 [.t true,.r (.bool false),.r (iV x),.t false,.r (iV x),.t false,Re hs]
  (Ro (Ai hlt (Ai hib (Ai (qc1 hb) (Ai hiu (Ai (qbe hu) (Ai h1 (Ai hiu (Ai (qbe hu) (Ai h2 (Ai hs tI))))))))))) r
theorem qix {u fr:List Int} {b:List Bool} {x:Int} {k:Nat} (hb:b[k]?=some false) (hu:u[k]?=some x) (hib:0≤(k:Int)∧(k:Int)<(b.length:Int)) (hiu:0≤(k:Int)∧(k:Int)<(u.length:Int)) (hlt:decide ((k:Int)<(b.length:Int))=true) (h1:decide (x<0)=true):Rl 3 3 207 0 31 4 (qvU b k) (qns b fr u) (.ret) ([(2,.pv (.bool false))]) ([]):=
 RunsL.stop [] 300 [.t true,.r (.bool false),.r (iV x),.t true] (fun h=>by cases h)
  (Ro (Ai hlt (Ai hib (Ai (qc1 hb) (Ai hiu (Ai (qbe hu) (Ai h1 tI)))))))
theorem qiy {u fr:List Int} {b:List Bool} {x:Int} {k:Nat} (hb:b[k]?=some false) (hu:u[k]?=some x) (hib:0≤(k:Int)∧(k:Int)<(b.length:Int)) (hiu:0≤(k:Int)∧(k:Int)<(u.length:Int)) (hlt:decide ((k:Int)<(b.length:Int))=true) (h1:decide (x<0)=false) (h2:decide (x>1000000)=true):Rl 3 3 207 0 31 4 (qvU b k) (qns b fr u) (.ret) ([(2,.pv (.bool false))]) ([]):=
 RunsL.stop [] 300 [.t true,.r (.bool false),.r (iV x),.t false,.r (iV x),.t true] (fun h=>by cases h)
  (Ro (Ai hlt (Ai hib (Ai (qc1 hb) (Ai hiu (Ai (qbe hu) (Ai h1 (Ai hiu (Ai (qbe hu) (Ai h2 tI))))))))))
theorem qBf {u fr:List Int} {b:List Bool} {k:Nat} (hge:decide ((k:Int)<(b.length:Int))=false):Rl 3 3 207 0 31 4 (qvU b k) (qns b fr u) (.exit 0) ([]) ([]):=
 RunsL.stop [] 300 [.t false] (fun h=>by cases h)
  (Ro (Ai hge tI))
theorem qEp {u fr:List Int} {b:List Bool} (r0:Rl 3 3 207 0 31 4 ([(1,.pp 3 0),(7,.ls 1 b.length),(8,.pv (iV (b.length:Int))),(9,.pv (iV ((0:Nat):Int)))]) (qns b fr u) (.ret) ([(2,.pv (.bool false))]) ([])) :
 Fn 207 3 [.ag [.ls 0 u.length,.ls 1 b.length,.ls 2 fr.length]] (qfz b fr u) (.pv (.bool false)) 0 []:=
 Fz [] [Lf r0]
  tI (Lo r0 [] tI)
theorem qx4 {u fr:List Int} {b:List Bool} (r0:Rl 3 3 207 0 31 4 ([(1,.pp 3 0),(7,.ls 1 b.length),(8,.pv (iV (b.length:Int))),(9,.pv (iV ((0:Nat):Int)))]) (qns b fr u) (.exit 0) ([]) ([])) :
 Fn 207 3 [.ag [.ls 0 u.length,.ls 1 b.length,.ls 2 fr.length]] (qfz b fr u) (.pv (.bool true)) 0 []:=
 Fz [] [Lf r0]
  tI (Lo r0 [] tI)
abbrev qjj (b:List Bool) (fr:List Int) (g:List Bool) (u:List Int):HpL:=[(3,0,.ls 0 u.length),(3,1,.ls 1 b.length),(3,2,.ls 2 fr.length),(5,0,.ls 4 b.length),(0,0,zrI u),(1,0,zrB b),(2,0,zrI fr),(4,0,.row 4 1 b.length (zbV g))]
abbrev qEr (b:List Bool) (k:Nat):TmL:=[(1,.pp 3 0),(3,.pp 5 0),(12,.ls 1 b.length),(13,.pv (iV (b.length:Int))),(14,.pv (iV (k:Int)))]
theorem qhC {u fr:List Int} {b g:List Bool} {k:Nat} (hb:b[k]?=some true) (hib:0≤(k:Int)∧(k:Int)<(b.length:Int)) (hg:k<g.length) (hlt:decide ((k:Int)<(b.length:Int))=true) (hs:iV (IntKind.i64.wrap ((k:Int)+1))=iV (((k+1:Nat):Int))) {e:Exit} {tm2:TmL} {hp2:HpL}
 (r:Rl 3 3 208 0 36 6 ([(1,.pp 3 0),(3,.pp 5 0),(12,.ls 1 b.length),(13,.pv (iV (b.length:Int))),(14,.pv (iV ((k+1:Nat):Int)))]) ([(3,0,.ls 0 u.length),(3,1,.ls 1 b.length),(3,2,.ls 2 fr.length),(5,0,.ls 4 b.length),(0,0,zrI u),(1,0,zrB b),(2,0,zrI fr),(4,0,.row 4 1 b.length (zbV (g.set k false)))]) e tm2 hp2):Rl 3 3 208 0 36 6 (qEr b k) (qjj b fr g u) e tm2 hp2:=
 RunsL.next [] 300 [.t true,.r (.bool true),.k,.w (zbV (g.set k false)),Re hs]
  (Ro (Ai hlt (Ai hib (Ai (qc1 hb) (Ai hib (Ai (qwN g k false hg) (Ai (qf8 g k hg) (Ai hs tI)))))))) r
theorem qgh {u fr:List Int} {b g:List Bool} {k:Nat} (hb:b[k]?=some false) (hib:0≤(k:Int)∧(k:Int)<(b.length:Int)) (hg:k<g.length) (hlt:decide ((k:Int)<(b.length:Int))=true) (hs:iV (IntKind.i64.wrap ((k:Int)+1))=iV (((k+1:Nat):Int))) {e:Exit} {tm2:TmL} {hp2:HpL}
 (r:Rl 3 3 208 0 36 6 ([(1,.pp 3 0),(3,.pp 5 0),(12,.ls 1 b.length),(13,.pv (iV (b.length:Int))),(14,.pv (iV ((k+1:Nat):Int)))]) ([(3,0,.ls 0 u.length),(3,1,.ls 1 b.length),(3,2,.ls 2 fr.length),(5,0,.ls 4 b.length),(0,0,zrI u),(1,0,zrB b),(2,0,zrI fr),(4,0,.row 4 1 b.length (zbV (g.set k true)))]) e tm2 hp2):Rl 3 3 208 0 36 6 (qEr b k) (qjj b fr g u) e tm2 hp2:=
 RunsL.next [] 300 [.t true,.r (.bool false),.k,.w (zbV (g.set k true)),Re hs]
  (Ro (Ai hlt (Ai hib (Ai (qc1 hb) (Ai hib (Ai (qwN g k true hg) (Ai (qf8 g k hg) (Ai hs tI)))))))) r
theorem qzI {u fr:List Int} {b g:List Bool} {k:Nat} (hge:decide ((k:Int)<(b.length:Int))=false):Rl 3 3 208 0 36 6 (qEr b k) (qjj b fr g u) (.exit 0) ([(1,.pp 3 0),(3,.pp 5 0)]) (qjj b fr g u):=
 RunsL.stop [] 300 [.t false] (fun h=>by cases h)
  (Ro (Ai hge tI))
abbrev qBV (fr:List Int) (k:Nat):TmL:=[(0,.ls 2 fr.length),(1,.pc 230 [.pp 3 0,.pp 5 0]),(7,.pv (iV (fr.length:Int))),(8,.pv (iV (k:Int)))]
theorem qx3 {u fr:List Int} {b g:List Bool} {x:Int} {k:Nat} (hf:fr[k]?=some x) (hif:0≤(k:Int)∧(k:Int)<(fr.length:Int)) (hlt:decide ((k:Int)<(fr.length:Int))=true) (hh:Fn 231 3 [.ag [.ls 0 u.length,.ls 1 b.length,.ls 2 fr.length],.pv (iV (x))] (qfz b fr u) (.pv (.bool false)) 0 []):Rl 3 6 246 0 19 6 (qBV fr k) (qjj b fr g u) (.ret) ([(4,.pv (iV (k:Int)))]) (qjj b fr g u):=
 RunsL.stop [] 300 [.t true,.r (iV x),.k,Cf hh [0,1,2],.k] (fun h=>by cases h)
  (Ro (Ai hlt (Ai hif (Ai (qbe hf) (Co hh [0,1,2] 6 tI)))))
theorem qum {u fr:List Int} {b g:List Bool} {x:Int} {k:Nat} (hf:fr[k]?=some x) (hif:0≤(k:Int)∧(k:Int)<(fr.length:Int)) (hlt:decide ((k:Int)<(fr.length:Int))=true) (hh:Fn 231 3 [.ag [.ls 0 u.length,.ls 1 b.length,.ls 2 fr.length],.pv (iV (x))] (qfz b fr u) (.pv (.bool true)) 0 []) (hg:g[x.toNat]?=some false) (hix:0≤x∧x<(b.length:Int)):Rl 3 6 246 0 19 6 (qBV fr k) (qjj b fr g u) (.ret) ([(4,.pv (iV (k:Int)))]) (qjj b fr g u):=
 RunsL.stop [] 300 [.t true,.r (iV x),.k,Cf hh [0,1,2],.k,.r (.bool false),.k] (fun h=>by cases h)
  (Ro (Ai hlt (Ai hif (Ai (qbe hf) (Co hh [0,1,2] 6 (Ai hix (Ai (qfC hg) tI)))))))
theorem quz {u fr:List Int} {b g:List Bool} {x:Int} {k:Nat} (hf:fr[k]?=some x) (hif:0≤(k:Int)∧(k:Int)<(fr.length:Int)) (hlt:decide ((k:Int)<(fr.length:Int))=true) (hh:Fn 231 3 [.ag [.ls 0 u.length,.ls 1 b.length,.ls 2 fr.length],.pv (iV (x))] (qfz b fr u) (.pv (.bool true)) 0 []) (hg:g[x.toNat]?=some true) (hix:0≤x∧x<(b.length:Int)) (hgl:x.toNat<g.length) (hs:iV (IntKind.i64.wrap ((k:Int)+1))=iV (((k+1:Nat):Int))) {e:Exit} {tm2:TmL} {hp2:HpL}
 (r:Rl 3 6 246 0 19 6 ([(0,.ls 2 fr.length),(1,.pc 230 [.pp 3 0,.pp 5 0]),(7,.pv (iV (fr.length:Int))),(8,.pv (iV ((k+1:Nat):Int)))]) ([(3,0,.ls 0 u.length),(3,1,.ls 1 b.length),(3,2,.ls 2 fr.length),(5,0,.ls 4 b.length),(0,0,zrI u),(1,0,zrB b),(2,0,zrI fr),(4,0,.row 4 1 b.length (zbV (g.set x.toNat false)))]) e tm2 hp2):Rl 3 6 246 0 19 6 (qBV fr k) (qjj b fr g u) e tm2 hp2:=
 RunsL.next [] 300 [.t true,.r (iV x),.k,Cf hh [0,1,2],.k,.r (.bool true),.k,.w (zbV (g.set x.toNat false)),Re hs]
  (Ro (Ai hlt (Ai hif (Ai (qbe hf) (Co hh [0,1,2] 6 (Ai hix (Ai (qfC hg) (Ai hix (Ai (qwN g x.toNat false hgl) (Ai (qf8 g x.toNat hgl) (Ai hs tI))))))))))) r
theorem qA6 {u fr:List Int} {b g:List Bool} {k:Nat} (hge:decide ((k:Int)<(fr.length:Int))=false):Rl 3 6 246 0 19 6 (qBV fr k) (qjj b fr g u) (.exit 0) ([]) (qjj b fr g u):=
 RunsL.stop [] 300 [.t false] (fun h=>by cases h)
  (Ro (Ai hge tI))
abbrev qEb (g:List Bool) (k:Nat):TmL:=[(0,.ls 0 g.length),(1,.pv (.bool true)),(7,.pv (iV (g.length:Int))),(8,.pv (iV (k:Int)))]
theorem qv0 {g:List Bool} {k:Nat} (hg:g[k]?=some true) (hig:0≤(k:Int)∧(k:Int)<(g.length:Int)) (hlt:decide ((k:Int)<(g.length:Int))=true):Rl 1 1 247 0 19 1 (qEb g k) ([(0,0,zrB g)]) (.ret) ([(4,.pv (iV (k:Int)))]) ([]):=
 RunsL.stop [] 300 [.t true,.r (.bool true),.k] (fun h=>by cases h)
  (Ro (Ai hlt (Ai hig (Ai (qc1 hg) tI))))
theorem qke {g:List Bool} {k:Nat} (hg:g[k]?=some false) (hig:0≤(k:Int)∧(k:Int)<(g.length:Int)) (hlt:decide ((k:Int)<(g.length:Int))=true) (hs:iV (IntKind.i64.wrap ((k:Int)+1))=iV (((k+1:Nat):Int))) {e:Exit} {tm2:TmL} {hp2:HpL}
 (r:Rl 1 1 247 0 19 1 ([(0,.ls 0 g.length),(1,.pv (.bool true)),(7,.pv (iV (g.length:Int))),(8,.pv (iV ((k+1:Nat):Int)))]) ([(0,0,zrB g)]) e tm2 hp2):Rl 1 1 247 0 19 1 (qEb g k) ([(0,0,zrB g)]) e tm2 hp2:=
 RunsL.next [] 300 [.t true,.r (.bool false),.k,Re hs]
  (Ro (Ai hlt (Ai hig (Ai (qc1 hg) (Ai hs tI))))) r
theorem qxc {g:List Bool} {k:Nat} (hge:decide ((k:Int)<(g.length:Int))=false):Rl 1 1 247 0 19 1 (qEb g k) ([(0,0,zrB g)]) (.exit 0) ([]) ([]):=
 RunsL.stop [] 300 [.t false] (fun h=>by cases h)
  (Ro (Ai hge tI))
theorem qz9 {g:List Bool} {k:Nat} (r0:Rl 1 1 247 0 19 1 ([(0,.ls 0 g.length),(1,.pv (.bool true)),(7,.pv (iV (g.length:Int))),(8,.pv (iV ((0:Nat):Int)))]) ([(0,0,zrB g)]) (.ret) ([(4,.pv (iV (k:Int)))]) ([])) (hk:decide ((k:Int)≥0)=true) :
 Fn 233 1 [.ls 0 g.length,.pv (.bool true)] [(0,0,zrB g)] (.pv (.bool true)) 0 []:=
 Fz [] [.k,Lf r0,.t true]
  tI (Lo r0 [] (Ai hk tI))
theorem qD0 {g:List Bool} (r0:Rl 1 1 247 0 19 1 ([(0,.ls 0 g.length),(1,.pv (.bool true)),(7,.pv (iV (g.length:Int))),(8,.pv (iV ((0:Nat):Int)))]) ([(0,0,zrB g)]) (.exit 0) ([]) ([])) :
 Fn 233 1 [.ls 0 g.length,.pv (.bool true)] [(0,0,zrB g)] (.pv (.bool false)) 0 []:=
 Fz [] [.k,Lf r0,.k]
  tI (Lo r0 [] tI)
abbrev qEy (b:List Bool) (fr:List Int) (g:List Bool) (u:List Int):Prop:=Rl 3 3 208 0 36 6 ([(1,.pp 3 0),(3,.pp 5 0),(12,.ls 1 b.length),(13,.pv (iV (b.length:Int))),(14,.pv (iV ((0:Nat):Int)))]) ([(3,0,.ls 0 u.length),(3,1,.ls 1 b.length),(3,2,.ls 2 fr.length),(5,0,.ls 4 b.length),(0,0,zrI u),(1,0,zrB b),(2,0,zrI fr),(4,0,.row 4 1 b.length (zbV (List.replicate b.length false)))]) (.exit 0) ([(1,.pp 3 0),(3,.pp 5 0)]) (qjj b fr g u)
theorem qq3 {u fr:List Int} {b g g1:List Bool} {k:Nat} (n0:0≤(b.length:Int)) (n1:(b.length:Int)≤1000000) (r0:qEy b fr g u) (r1:Rl 3 6 246 0 19 6 ([(0,.ls 2 fr.length),(1,.pc 230 [.pp 3 0,.pp 5 0]),(7,.pv (iV (fr.length:Int))),(8,.pv (iV ((0:Nat):Int)))]) (qjj b fr g u) (.ret) ([(4,.pv (iV (k:Int)))]) ([(3,0,.ls 0 u.length),(3,1,.ls 1 b.length),(3,2,.ls 2 fr.length),(5,0,.ls 4 b.length),(0,0,zrI u),(1,0,zrB b),(2,0,zrI fr),(4,0,.row 4 1 b.length (zbV g1))])) (hk:decide ((k:Int)≥0)=true) :
 Fn 208 3 [.ag [.ls 0 u.length,.ls 1 b.length,.ls 2 fr.length]] (qfz b fr u) (.pv (.bool false)) 0 []:=
 Fz [] [Lf r0,.k,.k,Lf r1,.t true,.k]
  tI (Ai n0 (Ai (Eq.refl (b.length:Int)) (Ai n1 (Ai (Lt r0 []) (Ai (Ai (Er (SV.ls 0 u.length)) (Ai (Er (SV.ls 1 b.length)) (Ai (Er (SV.ls 2 fr.length)) (Ai (Er (SV.ls 4 b.length)) (Ai (Er (zrI u)) (Ai (Er (zrB b)) (Ai (Er (zrI fr)) (Ai (qcw b.length) tI)))))))) (Ai r0 (Lo r1 [] (Ai hk tI))))))))
abbrev qE8 (b:List Bool) (fr:List Int) (g:List Bool) (g1:List Bool) (u:List Int):Prop:=Rl 3 6 246 0 19 6 ([(0,.ls 2 fr.length),(1,.pc 230 [.pp 3 0,.pp 5 0]),(7,.pv (iV (fr.length:Int))),(8,.pv (iV ((0:Nat):Int)))]) (qjj b fr g u) (.exit 0) ([]) ([(3,0,.ls 0 u.length),(3,1,.ls 1 b.length),(3,2,.ls 2 fr.length),(5,0,.ls 4 b.length),(0,0,zrI u),(1,0,zrB b),(2,0,zrI fr),(4,0,.row 4 1 b.length (zbV g1))])
theorem qtR {u fr:List Int} {b g g1:List Bool} (n0:0≤(b.length:Int)) (n1:(b.length:Int)≤1000000) (r0:qEy b fr g u) (r1:qE8 b fr g g1 u) (hl:g1.length=b.length) (hc:Fn 233 1 [.ls 0 b.length,.pv (.bool true)] [(0,0,.row 4 1 b.length (zbV g1))] (.pv (.bool true)) 0 []) :
 Fn 208 3 [.ag [.ls 0 u.length,.ls 1 b.length,.ls 2 fr.length]] (qfz b fr u) (.pv (.bool false)) 0 []:=
 Fz [] [Lf r0,.k,.k,Lf r1,.k,.k,Cf hc [4],.k]
  tI (Ai n0 (Ai (Eq.refl (b.length:Int)) (Ai n1 (Ai (Lt r0 []) (Ai (Ai (Er (SV.ls 0 u.length)) (Ai (Er (SV.ls 1 b.length)) (Ai (Er (SV.ls 2 fr.length)) (Ai (Er (SV.ls 4 b.length)) (Ai (Er (zrI u)) (Ai (Er (zrB b)) (Ai (Er (zrI fr)) (Ai (qcw b.length) tI)))))))) (Ai r0 (Lo r1 [] (Co hc [4] 6 tI))))))))
theorem qDc {u fr:List Int} {b g g1:List Bool} (n0:0≤(b.length:Int)) (n1:(b.length:Int)≤1000000) (r0:qEy b fr g u) (r1:qE8 b fr g g1 u) (hl:g1.length=b.length) (hc:Fn 233 1 [.ls 0 b.length,.pv (.bool true)] [(0,0,.row 4 1 b.length (zbV g1))] (.pv (.bool false)) 0 []) :
 Fn 208 3 [.ag [.ls 0 u.length,.ls 1 b.length,.ls 2 fr.length]] (qfz b fr u) (.pv (.bool true)) 0 []:=
 Fz [] [Lf r0,.k,.k,Lf r1,.k,.k,Cf hc [4],.k]
  tI (Ai n0 (Ai (Eq.refl (b.length:Int)) (Ai n1 (Ai (Lt r0 []) (Ai (Ai (Er (SV.ls 0 u.length)) (Ai (Er (SV.ls 1 b.length)) (Ai (Er (SV.ls 2 fr.length)) (Ai (Er (SV.ls 4 b.length)) (Ai (Er (zrI u)) (Ai (Er (zrB b)) (Ai (Er (zrI fr)) (Ai (qcw b.length) tI)))))))) (Ai r0 (Lo r1 [] (Co hc [4] 6 tI))))))))
theorem qmR {u fr:List Int} {b:List Bool} (hz:Pure Tryz.prog 145 #[iV (u.length:Int)] (.bool false)) :
 Fn 166 3 [.ag [.ls 0 u.length,.ls 1 b.length,.ls 2 fr.length]] (qfz b fr u) (.pv (iV (8))) 0 []:=
 Fz [] [Rf hz,.k]
  tI (Ai hz tI)
abbrev qqg (u:List Int):Prop:=Pure Tryz.prog 145 #[iV (u.length:Int)] (.bool true)
theorem qzv {u fr:List Int} {b:List Bool} (hz:qqg u) (hl:(!((b.length:Int)==(u.length:Int)))=true) :
 Fn 166 3 [.ag [.ls 0 u.length,.ls 1 b.length,.ls 2 fr.length]] (qfz b fr u) (.pv (iV (8))) 0 []:=
 Fz [] [Rf hz,.k,.t true]
  tI (Ai hz (Ai hl tI))
theorem qyH {u fr:List Int} {b:List Bool} (hz:qqg u) (hl:(!((b.length:Int)==(u.length:Int)))=false) (hu:Fn 207 3 [.ag [.ls 0 u.length,.ls 1 b.length,.ls 2 fr.length]] (qfz b fr u) (.pv (.bool false)) 0 []) :
 Fn 166 3 [.ag [.ls 0 u.length,.ls 1 b.length,.ls 2 fr.length]] (qfz b fr u) (.pv (iV (8))) 0 []:=
 Fz [] [Rf hz,.k,.t false,Cf hu [0,1,2],.k]
  tI (Ai hz (Ai hl (Co hu [0,1,2] 4 tI)))
theorem qwD {u fr:List Int} {b:List Bool} (hz:qqg u) (hl:(!((b.length:Int)==(u.length:Int)))=false) (hu:Fn 207 3 [.ag [.ls 0 u.length,.ls 1 b.length,.ls 2 fr.length]] (qfz b fr u) (.pv (.bool true)) 0 []) (hf:Fn 208 3 [.ag [.ls 0 u.length,.ls 1 b.length,.ls 2 fr.length]] (qfz b fr u) (.pv (.bool false)) 0 []) :
 Fn 166 3 [.ag [.ls 0 u.length,.ls 1 b.length,.ls 2 fr.length]] (qfz b fr u) (.pv (iV (8))) 0 []:=
 Fz [] [Rf hz,.k,.t false,Cf hu [0,1,2],.k,Cf hf [0,1,2],.k]
  tI (Ai hz (Ai hl (Co hu [0,1,2] 4 (Co hf [0,1,2] 4 tI))))
theorem qyC {u fr:List Int} {b:List Bool} (hz:qqg u) (hl:(!((b.length:Int)==(u.length:Int)))=false) (hu:Fn 207 3 [.ag [.ls 0 u.length,.ls 1 b.length,.ls 2 fr.length]] (qfz b fr u) (.pv (.bool true)) 0 []) (hf:Fn 208 3 [.ag [.ls 0 u.length,.ls 1 b.length,.ls 2 fr.length]] (qfz b fr u) (.pv (.bool true)) 0 []) :
 Fn 166 3 [.ag [.ls 0 u.length,.ls 1 b.length,.ls 2 fr.length]] (qfz b fr u) (.pv (iV (0))) 0 []:=
 Fz [] [Rf hz,.k,.t false,Cf hu [0,1,2],.k,Cf hu [0,1,2],.k]
  tI (Ai hz (Ai hl (Co hu [0,1,2] 4 (Co hf [0,1,2] 4 tI))))
end Go.Proofs.YtkjaanhddkkodaaGreat

namespace Go.Proofs.YtkjaanhddkkodaaGreat
set_option maxRecDepth 100000
open Go.RowKit
theorem qzX (x y:Nat):Int.tdiv (x:Int) (y:Int)=((x/y:Nat):Int):=by rw[Int.tdiv_eq_ediv_of_nonneg (Int.natCast_nonneg x)];simp
theorem qDp (x y:Nat):Int.tmod (x:Int) (y:Int)=((x%y:Nat):Int):=by rw[Int.tmod_eq_emod_of_nonneg (Int.natCast_nonneg x)];simp
theorem qyE (x:Nat) (h:x<18446744073709551616):Value.int .u64 (IntKind.u64.wrap (Int.tdiv (x:Int) 4294967296))=.int .u64 ((x/4294967296:Nat):Int):=by
 rw[show (4294967296:Int)=((4294967296:Nat):Int) from rfl,qzX,qff (by omega) (by omega)]
theorem qzr (x:Nat):Value.int .u64 (Int.tmod (x:Int) 4294967296)=.int .u64 ((x%4294967296:Nat):Int):=by
 rw[show (4294967296:Int)=((4294967296:Nat):Int) from rfl,qDp]
theorem qBD {x y:Nat} (h:x*y<18446744073709551616):Value.int .u64 (IntKind.u64.wrap ((x:Int)*(y:Int)))=.int .u64 ((x*y:Nat):Int):=qgj (by simp) (Int.natCast_nonneg _) (by omega)
theorem qt4 {x y:Nat} (h:x+y<18446744073709551616):Value.int .u64 (IntKind.u64.wrap ((x:Int)+(y:Int)))=.int .u64 ((x+y:Nat):Int):=qgj (by simp) (by omega) (by omega)
theorem qxS (ah al bh bl:Nat):(ah*4294967296+al)*(bh*4294967296+bl)=ah*bh*18446744073709551616+(ah*bl+al*bh)*4294967296+al*bl:=by
 have e1:ah*4294967296*(bh*4294967296)=ah*bh*18446744073709551616:=Nat.mul_mul_mul_comm ah 4294967296 bh 4294967296
 have e2:ah*4294967296*bl=ah*bl*4294967296:=Nat.mul_right_comm ah 4294967296 bl
 have e3:al*(bh*4294967296)=al*bh*4294967296:=(Nat.mul_assoc al bh 4294967296).symm
 rw[Nat.add_mul,Nat.mul_add,Nat.mul_add,e1,e2,e3,Nat.add_mul]
 omega
theorem qmS (a b:Nat) (ha:a<18446744073709551616) (hb:b<18446744073709551616):Pure Tryz.prog 136 #[.int .u64 a,.int .u64 b] (qik false (a*b)):=by
 obtain⟨ah,hah⟩:∃ x,x=a/4294967296:=⟨_,rfl⟩
 obtain⟨al,hal⟩:∃ x,x=a%4294967296:=⟨_,rfl⟩
 obtain⟨bh,hbh⟩:∃ x,x=b/4294967296:=⟨_,rfl⟩
 obtain⟨bl,hbl⟩:∃ x,x=b%4294967296:=⟨_,rfl⟩
 have e1:a=ah*4294967296+al:=by omega
 have e2:b=bh*4294967296+bl:=by omega
 have key:=qxS ah al bh bl
 rw[← e1,← e2] at key
 have m1:ah*bl≤4294967295*4294967295:=Nat.mul_le_mul (by omega) (by omega)
 have m2:al*bh≤4294967295*4294967295:=Nat.mul_le_mul (by omega) (by omega)
 have m3:ah*bh≤4294967295*4294967295:=Nat.mul_le_mul (by omega) (by omega)
 have m4:al*bl≤4294967295*4294967295:=Nat.mul_le_mul (by omega) (by omega)
 have hab:a*b<340282366920938463463374607431768211456:=by
  have:a*b≤18446744073709551615*18446744073709551615:=Nat.mul_le_mul (by omega) (by omega)
  omega
 have x1:=qBD (x:=al) (y:=bl) (by omega)
 have x2:=qBD (x:=ah) (y:=bl) (by omega)
 have x4:=qBD (x:=al) (y:=bh) (by omega)
 have x6:=qBD (x:=ah) (y:=bh) (by omega)
 have q1:=qyE a ha
 have q2:=qzr a
 have q3:=qyE b hb
 have q4:=qzr b
 rw[← hah] at q1
 rw[← hal] at q2
 rw[← hbh] at q3
 rw[← hbl] at q4
 generalize ah*bl=p1 at *
 generalize al*bh=p2 at *
 generalize ah*bh=p3 at *
 generalize al*bl=low at *
 generalize a*b=ab at *
 obtain⟨m,hm⟩:∃ m,m=p1+low/4294967296:=⟨_,rfl⟩
 obtain⟨n,hn⟩:∃ n,n=p2+m%4294967296:=⟨_,rfl⟩
 have r:=qkW (nz:=by decide) q1 q2 q3 q4 x1 x2 (qyE low (by omega)) (qt4 (by omega)) x4 (qzr _) (qt4 (by omega)) x6 (qyE _ (by omega)) (qt4 (by omega)) (qyE _ (by omega)) (qt4 (by omega))
  (qzr _) (qgj (y:=((n%4294967296*4294967296:Nat):Int)) (by rw[hn,hm];simp) (by omega) (by omega)) (qzr _) (qt4 (by omega))
 rw[← hm,← hn] at r
 have f1:p3+m/4294967296+n/4294967296=ab/18446744073709551616:=by omega
 have f2:n%4294967296*4294967296+low%4294967296=ab%18446744073709551616:=by omega
 rw[f1,f2] at r
 exact r
abbrev qd1 (x:Int):Value:=qik (decide (x<0)) x.natAbs
theorem qdH (n:Int) (h:I64 n):Pure Tryz.prog 128 #[iV n] (.int .u64 (n.natAbs:Int)):=
 fun w=>(qga n w h.1 h.2).mono fun _ _ ⟨h1,h2⟩=>⟨h1,Gr.of_eq h2⟩
theorem qaP {p:Prop} [Decidable p] (h:p):decide p=true:=by simp[h]
theorem qaD {p:Prop} [Decidable p] (h:¬ p):decide p=false:=by simp[h]
theorem qcb (a b:Int) (ha:I64 a) (hb:I64 b):Pure Tryz.prog 84 #[iV a,iV b] (qd1 (a*b)):=by
 have ca:=qdH a ha
 have cb:=qdH b hb
 unfold I64 at ha hb
 have cp:=qmS a.natAbs b.natAbs (by omega) (by omega)
 unfold qd1
 rw[Int.natAbs_mul]
 by_cases sa:a<0<;>by_cases sb:b<0
 ·rw[qaD (show ¬ a*b<0 by have:=Int.mul_pos_of_neg_of_neg sa sb;omega)]
  exact qko ca cb cp (qaP sa) (qaP sb)
 ·by_cases nb:b=0
  ·subst nb
   rw[qaD (by simp)]
   exact qkT ca cb cp (qaP sa) (qaD sb) (by simp;omega) (by simp)
  ·rw[qaP (Int.mul_neg_of_neg_of_pos sa (by omega))]
   exact qlE ca cb cp (qaP sa) (qaD sb) (by simp;omega) (by simpa using nb)
 ·by_cases na:a=0
  ·subst na
   rw[qaD (by simp)]
   exact qk4 ca cb cp (qaD sa) (qaP sb) (by simp)
  ·rw[qaP (Int.mul_neg_of_pos_of_neg (by omega) sb)]
   exact qlr ca cb cp (qaD sa) (qaP sb) (by simpa using na) (by simp;omega)
 ·rw[qaD (show ¬ a*b<0 by have:=Int.mul_nonneg (show 0≤a by omega) (show 0≤b by omega);omega)]
  exact qks ca cb cp (qaD sa) (qaD sb)
theorem qfm (x:Int):Pure Tryz.prog 85 #[qd1 x] (iV x.sign):=by
 unfold qd1
 obtain⟨A,hA⟩:∃ A,A=x.natAbs:=⟨_,rfl⟩
 rw[← hA]
 by_cases h0:x=0
 ·subst h0
  subst hA
  exact qv4 (by simp) (by simp)
 ·by_cases hs:x<0
  ·rw[qaP hs,Int.sign_eq_neg_one_of_neg hs]
   by_cases hh:A/18446744073709551616=0
   ·exact qqL (by simp[hh]) (by simp;omega)
   ·exact qqm (by simp;omega)
  ·rw[qaD hs,Int.sign_eq_one_of_pos (by omega)]
   by_cases hh:A/18446744073709551616=0
   ·exact qrt (by simp[hh]) (by simp;omega)
   ·exact qp4 (by simp;omega)
def qfM (A B:Nat):Int:=if A<B then -1 else if A=B then 0 else 1
theorem qdy (s t:Bool) (A B:Nat):Pure Tryz.prog 86 #[qik s A,qik t B] (iV (qfM A B)):=by
 by_cases hh:A/18446744073709551616=B/18446744073709551616
 ·by_cases hl:A%18446744073709551616=B%18446744073709551616
  ·have e:A=B:=by omega
   subst e
   rw[show qfM A A=0 by simp[qfM]]
   exact qqU (by simp) (by simp)
  ·by_cases hlt:A%18446744073709551616<B%18446744073709551616
   ·rw[show qfM A B = -1 by unfold qfM;rw[if_pos (by omega)]]
    exact qqh (by simp[hh]) (by simp;omega) (by simp;omega)
   ·rw[show qfM A B=1 by unfold qfM;rw[if_neg (by omega),if_neg (by omega)]]
    exact qpb (by simp[hh]) (by simp;omega) (by simp;omega)
 ·by_cases hlt:A/18446744073709551616<B/18446744073709551616
  ·rw[show qfM A B = -1 by unfold qfM;rw[if_pos (by omega)]]
   exact qpK (by simp;omega) (by simp;omega)
  ·rw[show qfM A B=1 by unfold qfM;rw[if_neg (by omega),if_neg (by omega)]]
   exact qpX (by simp;omega) (by simp;omega)
theorem qi4 {x y:Nat} (h:x<y) (hy:y<18446744073709551616):Value.int .u64 (IntKind.u64.wrap ((x:Int)-(y:Int)))=.int .u64 ((18446744073709551616+x-y:Nat):Int):=by
 rw[IntKind.wrap_u64];congr 1;omega
theorem qeP (s t:Bool) (A B:Nat) (hA:A<340282366920938463463374607431768211456) (h:B≤A):Pure Tryz.prog 236 #[qik s A,qik t B] (qik false (A-B)):=by
 obtain⟨a1,ha1⟩:∃ x,x=A/18446744073709551616:=⟨_,rfl⟩
 obtain⟨a0,ha0⟩:∃ x,x=A%18446744073709551616:=⟨_,rfl⟩
 obtain⟨b1,hb1⟩:∃ x,x=B/18446744073709551616:=⟨_,rfl⟩
 obtain⟨b0,hb0⟩:∃ x,x=B%18446744073709551616:=⟨_,rfl⟩
 unfold qik
 rw[← ha1,← ha0,← hb1,← hb0]
 have hs:Value.int .u64 (IntKind.u64.wrap ((a1:Int)-(b1:Int)))=.int .u64 ((a1-b1:Nat):Int):=qgj (by omega) (by omega) (by omega)
 by_cases hl:a0<b0
 ·rw[show (A-B)/18446744073709551616=a1-b1-1 by omega,show (A-B)%18446744073709551616=18446744073709551616+a0-b0 by omega]
  exact qyX hs (qi4 hl (by omega)) (by simp;omega) (qgj (by omega) (by omega) (by omega))
 ·rw[show (A-B)/18446744073709551616=a1-b1 by omega,show (A-B)%18446744073709551616=a0-b0 by omega]
  exact qBv hs (qgj (by omega) (by omega) (by omega)) (by simp;omega)
theorem qiY {x y z:Nat} (h:x+y=z+18446744073709551616) (hz:z<18446744073709551616):Value.int .u64 (IntKind.u64.wrap ((x:Int)+(y:Int)))=.int .u64 (z:Int):=by
 rw[IntKind.wrap_u64,show ((x:Int)+(y:Int))%18446744073709551616=(z:Int) by omega]
theorem qAB (s:Bool) (A B:Nat) (h:A+B<340282366920938463463374607431768211456):Pure Tryz.prog 217 #[qik s A,qik s B] (qik s (A+B)):=by
 obtain⟨a1,ha1⟩:∃ x,x=A/18446744073709551616:=⟨_,rfl⟩
 obtain⟨a0,ha0⟩:∃ x,x=A%18446744073709551616:=⟨_,rfl⟩
 obtain⟨b1,hb1⟩:∃ x,x=B/18446744073709551616:=⟨_,rfl⟩
 obtain⟨b0,hb0⟩:∃ x,x=B%18446744073709551616:=⟨_,rfl⟩
 unfold qik
 rw[← ha1,← ha0,← hb1,← hb0]
 have hh:Value.int .u64 (IntKind.u64.wrap ((a1:Int)+(b1:Int)))=.int .u64 ((a1+b1:Nat):Int):=qt4 (by omega)
 by_cases hl:a0+b0<18446744073709551616
 ·have l1:=qt4 hl
  rw[show (A+B)/18446744073709551616=a1+b1 by omega,show (A+B)%18446744073709551616=a0+b0 by omega]
  cases s
  ·exact qox hh l1 (qaD (by omega))
  ·exact ql3 hh l1 (qaD (by omega))
 ·obtain⟨z,hz⟩:∃ z,a0+b0=z+18446744073709551616:=⟨a0+b0-18446744073709551616,by omega⟩
  have l1:=qiY hz (by omega)
  rw[show (A+B)/18446744073709551616=a1+b1+1 by omega,show (A+B)%18446744073709551616=z by omega]
  cases s
  ·exact qm1 hh l1 (qaP (by omega)) (qgj (by omega) (by omega) (by omega))
  ·exact qn4 hh l1 (qaP (by omega)) (qgj (by omega) (by omega) (by omega))
theorem qnc (x y:Int) (hx:x.natAbs<170141183460469231731687303715884105728) (hy:y.natAbs<170141183460469231731687303715884105728):Pure Tryz.prog 217 #[qd1 x,qd1 y] (qd1 (x+y)):=by
 unfold qd1
 by_cases sx:x<0<;>by_cases sy:y<0
 ·rw[qaP sx,qaP sy,qaP (show x+y<0 by omega),show (x+y).natAbs=x.natAbs+y.natAbs by omega]
  exact qAB true _ _ (by omega)
 ·rw[qaP sx,qaD sy]
  have cl:=qdy true false x.natAbs y.natAbs
  by_cases hc:y.natAbs≤x.natAbs
  ·have cm:=qeP true false x.natAbs y.natAbs (by omega) hc
   rw[show (x+y).natAbs=x.natAbs-y.natAbs by omega]
   have hge:decide (qfM x.natAbs y.natAbs≥0)=true:=by unfold qfM;rw[if_neg (by omega)];split<;>decide
   obtain⟨D,hD⟩:∃ D,D=x.natAbs-y.natAbs:=⟨_,rfl⟩
   rw[← hD] at cm ⊢
   by_cases hd:D=0
   ·rw[qaD (show ¬ x+y<0 by omega)]
    exact qm4 cl hge cm (by simp[hd]) (by simp[hd])
   ·rw[qaP (show x+y<0 by omega)]
    by_cases hh:D/18446744073709551616=0
    ·exact qoh cl hge cm (by simp[hh]) (by simp;omega)
    ·exact qoc cl hge cm (by simp;omega)
  ·have cm:=qeP false true y.natAbs x.natAbs (by omega) (by omega)
   rw[show (x+y).natAbs=y.natAbs-x.natAbs by omega,qaD (show ¬ x+y<0 by omega)]
   exact qpD cl (by unfold qfM;rw[if_pos (by omega)];decide) cm
 ·rw[qaD sx,qaP sy]
  have cl:=qdy false true x.natAbs y.natAbs
  by_cases hc:y.natAbs≤x.natAbs
  ·have cm:=qeP false true x.natAbs y.natAbs (by omega) hc
   rw[show (x+y).natAbs=x.natAbs-y.natAbs by omega,qaD (show ¬ x+y<0 by omega)]
   exact qqP cl (by unfold qfM;rw[if_neg (by omega)];split<;>decide) cm
  ·have cm:=qeP true false y.natAbs x.natAbs (by omega) (by omega)
   rw[show (x+y).natAbs=y.natAbs-x.natAbs by omega,qaP (show x+y<0 by omega)]
   exact qq6 cl (by unfold qfM;rw[if_pos (by omega)];decide) cm
 ·rw[qaD sx,qaD sy,qaD (show ¬ x+y<0 by omega),show (x+y).natAbs=x.natAbs+y.natAbs by omega]
  exact qAB false _ _ (by omega)
theorem qni (g s t:Bool) (A B:Nat):Pure Tryz.prog 218 #[.bool g,qik s A,qik t B] (.tuple #[qaa (qd4 (qbn A&&qbn B) (sgV A g)) (qd4 (qbn A&&qbn B) (B:Int)),iV (ql0 (qbn A&&qbn B))]):=by
 by_cases hA:A<9223372036854775808
 ·by_cases hB:B<9223372036854775808
  ·have hf:(qbn A&&qbn B)=true:=by simp[qbn,hA,hB]
   rw[hf,show qd4 true (sgV A g)=sgV A g from rfl,show qd4 true (B:Int)=(B:Int) from rfl,show ql0 true=0 from rfl]
   have v1:iV (IntKind.i64.wrap ((A%18446744073709551616:Nat):Int))=iV (A:Int):=by rw[qap (by omega) (by omega)];congr 1;omega
   have v3:iV (IntKind.i64.wrap ((B%18446744073709551616:Nat):Int))=iV (B:Int):=by rw[qap (by omega) (by omega)];congr 1;omega
   cases g
   ·rw[show sgV A false=(A:Int) by unfold sgV;rw[if_pos hA];rfl]
    exact qwg (by simp;omega) (by simp;omega) (by simp;omega) (by simp;omega) v1 v3
   ·rw[show sgV A true = -(A:Int) by unfold sgV;rw[if_pos hA];rfl]
    exact qv6 (by simp;omega) (by simp;omega) (by simp;omega) (by simp;omega) v1 (by rw[Int.zero_sub,qap (by omega) (by omega)]) v3
  ·rw[show (qbn A&&qbn B)=false by simp[qbn,hB]]
   by_cases hh:B/18446744073709551616=0
   ·exact qrh (by simp;omega) (by simp;omega) (by simp;omega) (by simp;omega)
   ·exact qqS (by simp;omega) (by simp;omega) (by simp;omega)
 ·rw[show (qbn A&&qbn B)=false by simp[qbn,hA]]
  by_cases hh:A/18446744073709551616=0
  ·exact qp3 (by simp;omega) (by simp;omega)
  ·exact qpP (by simp;omega)
end Go.Proofs.YtkjaanhddkkodaaGreat

namespace Go.Proofs.YtkjaanhddkkodaaGreat
set_option maxRecDepth 100000
open Go.RowKit
abbrev qB0 (x:Int):Prop:=Pure Tryz.prog 85 #[qd1 (x)] (iV x.sign)
abbrev qCc (y:Int):Prop:=Pure Tryz.prog 85 #[qd1 (y)] (iV y.sign)
theorem qlT {a b c d x y:Int} (c1:Pure Tryz.prog 84 #[iV a,iV d] (qd1 (x))) (c2:Pure Tryz.prog 84 #[iV c,iV b] (qd1 (y))) (s1:qB0 x) (s2:qCc y) (t1:(x.sign !=y.sign)=true) (t2:decide (x.sign<y.sign)=true) :
 Pure Tryz.prog 40 #[qaa a b,qaa c d] (iV (-1)):=
 qad (args:=[qaa a b,qaa c d]) 200 [Rf c1,Rf c2,Rf s1,Rf s2,.t true,Rf s1,Rf s2,.t true]
  (Ai rfl (Ai c1 (Ai c2 (Ai s1 (Ai s2 (Ai t1 (Ai s1 (Ai s2 (Ai t2 tI))))))))) (by kernel_rfl)
theorem qkS {a b c d x y:Int} (c1:Pure Tryz.prog 84 #[iV a,iV d] (qd1 (x))) (c2:Pure Tryz.prog 84 #[iV c,iV b] (qd1 (y))) (s1:qB0 x) (s2:qCc y) (t1:(x.sign !=y.sign)=true) (t2:decide (x.sign<y.sign)=false) :
 Pure Tryz.prog 40 #[qaa a b,qaa c d] (iV 1):=
 qad (args:=[qaa a b,qaa c d]) 200 [Rf c1,Rf c2,Rf s1,Rf s2,.t true,Rf s1,Rf s2,.t false]
  (Ai rfl (Ai c1 (Ai c2 (Ai s1 (Ai s2 (Ai t1 (Ai s1 (Ai s2 (Ai t2 tI))))))))) (by kernel_rfl)
theorem qkR {a b c d x y e:Int} (c1:Pure Tryz.prog 84 #[iV a,iV d] (qd1 (x))) (c2:Pure Tryz.prog 84 #[iV c,iV b] (qd1 (y))) (s1:qB0 x) (s2:qCc y) (t1:(x.sign !=y.sign)=false) (t3:decide (x.sign<0)=true) (l1:Pure Tryz.prog 86 #[qd1 (y),qd1 (x)] (iV e)) :
 Pure Tryz.prog 40 #[qaa a b,qaa c d] (iV e):=
 qad (args:=[qaa a b,qaa c d]) 200 [Rf c1,Rf c2,Rf s1,Rf s2,.t false,Rf s1,.t true,Rf l1]
  (Ai rfl (Ai c1 (Ai c2 (Ai s1 (Ai s2 (Ai t1 (Ai s1 (Ai t3 (Ai l1 tI))))))))) (by kernel_rfl)
theorem qkQ {a b c d x y e:Int} (c1:Pure Tryz.prog 84 #[iV a,iV d] (qd1 (x))) (c2:Pure Tryz.prog 84 #[iV c,iV b] (qd1 (y))) (s1:qB0 x) (s2:qCc y) (t1:(x.sign !=y.sign)=false) (t3:decide (x.sign<0)=false) (l1:Pure Tryz.prog 86 #[qd1 (x),qd1 (y)] (iV e)) :
 Pure Tryz.prog 40 #[qaa a b,qaa c d] (iV e):=
 qad (args:=[qaa a b,qaa c d]) 200 [Rf c1,Rf c2,Rf s1,Rf s2,.t false,Rf s1,.t false,Rf l1]
  (Ai rfl (Ai c1 (Ai c2 (Ai s1 (Ai s2 (Ai t1 (Ai s1 (Ai t3 (Ai l1 tI))))))))) (by kernel_rfl)
end Go.Proofs.YtkjaanhddkkodaaGreat
