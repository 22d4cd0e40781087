/-
  Joined: Yp, Ys, Yv, Yz, Vf, Vh, Vi, Ve, Vj. Conditions: none.
-/
import Derived.Test.YtkjaanhddkkodaaGreatYo
import Derived.Test.YtkjaanhddkkodaaGreatW18
import Derived.Test.YtkjaanhddkkodaaGreatZj
namespace Go.Proofs.YtkjaanhddkkodaaGreat
set_option maxRecDepth 100000
open Go.RowKit
structure P2 where
 a:Int
 b:Int
deriving DecidableEq
def p2V:List P2→List Value
 | []=>[]
 | m::r=>iV m.a::iV m.b::p2V r
abbrev qHy (l:List P2):SV:=.row 23 2 l.length (p2V l)
abbrev qHz (l:List P2):SV:=.row 52 2 l.length (p2V l)
end Go.Proofs.YtkjaanhddkkodaaGreat

namespace Go.Proofs.YtkjaanhddkkodaaGreat
set_option maxRecDepth 100000
open Go.RowKit
theorem VA.new {n:Nat} (h1:1≤n) (h2:n≤200):VA (List.replicate n 0) (List.replicate n false) (qbW n) [] (List.replicate n (-1)):=by
 refine VA.of (Vd.new h1 h2) (by simp) (fun j x hx=>by simp at hx) (fun x hx=>by simp at hx) (fun k hk=>?_) (fun k hk=>?_) (by simp[List.count_replicate]) (fun x hx=>by simp at hx) (by simp) (fun k _ x y hx=>by simp at hx)
 ·have:=List.eq_of_mem_replicate (List.mem_of_getElem? hk)
  cases this
 ·have:=(List.getElem?_eq_some_iff.1 hk).1
  simp at this
  simp[this]
end Go.Proofs.YtkjaanhddkkodaaGreat

namespace Go.Proofs.YtkjaanhddkkodaaGreat
set_option maxRecDepth 100000
open Go.ChangeShapes Go.WideShapes Go.ChangeAt Go.RowKit Go.Joins Go.Deep
theorem qFL:Tryz.prog.cellsOf 62=5:=by kernel_rfl
theorem qAZ:Tryz.prog.cellsOf 23=2:=by kernel_rfl
theorem qyY:Tryz.prog.cellsOf 52=2:=by kernel_rfl
theorem qsS:Tryz.prog.cellsOf 2=1:=by kernel_rfl
theorem qEr:Tryz.prog.cellsOf 34=1:=by kernel_rfl
theorem qGa:Tryz.prog.cellsOf 36=5:=by kernel_rfl
theorem qDi {n:Int} (h:(Lit.int .i64 n).wf=true):I64 n:=by
 simp only[Lit.wf,Bool.and_eq_true,decide_eq_true_eq] at h
 have h1:IntKind.i64.min = -9223372036854775808:=by decide
 have h2:IntKind.i64.max=9223372036854775807:=by decide
 rw[h1,h2] at h
 exact h
section
variable {H:Type} {enc:TypeId×Value→H} {W:World} {base:Nat} {spare:Nat→Bool} {held:Bool}
theorem qAF (f:Nat→Ev):∀ (n j:Nat) (v:Value),(qaB ((List.range n).map f))[j]?=some v→j/5<n∧(ecV (f (j/5)))[j%5]?=some v:=by
 intro n j v h
 have hj:j<n*5:=by
  have:=(List.getElem?_eq_some_iff.1 h).1
  rw[qbj] at this
  simpa using this
 have hk:j/5<n:=by omega
 obtain⟨g0,g1,g2,g3,g4⟩:=qc7 (l:=(List.range n).map f) (k:=j/5) (m:=f (j/5)) (by simp[hk])
 refine⟨hk,?_⟩
 have h5:j%5=0∨j%5=1∨j%5=2∨j%5=3∨j%5=4:=by omega
 have e:j=j/5*5+j%5:=by omega
 rw[e] at h
 rcases h5 with e3 | e3 | e3 | e3 | e3<;>rw[e3] at h ⊢
 ·rw[Nat.add_zero,g0] at h;exact h
 ·rw[g1] at h;exact h
 ·rw[g2] at h;exact h
 ·rw[g3] at h;exact h
 ·rw[g4] at h;exact h
theorem qpw {fuel:Nat} {cs:List Value} {x:DataW H×List MemPlace} (h:DataW.trod enc Tryz.prog W base spare held fuel 34 cs=some x) :
 ∃ (u:Value) (l:List Ev),cs=[u]∧Rd W 5 u l.length (qaB l)∧∀ p∈l,EvI p:=by
 rcases open_slice Tryz.underlying34 h with ⟨rfl,_⟩ | ⟨a,len,cap,m,n,D,Pl,rfl,_,hlc,_,hm,_,hi⟩
 ·exact⟨_,[],rfl,⟨rfl,none,0,rfl,Nat.le_refl _,fun j v hv=>by simp[qaB] at hv⟩,fun p hp=>by simp at hp⟩
 have hlm:len≤m:=by rw[hm];split<;>omega
 have each:∀ i,i<len→∃ p:Ev,(W.cell? (a.add (i*5))=some (iV p.n)∧W.cell? (a.add (i*5+1))=some (iV p.d)∧W.cell? (a.add (i*5+2))=some (iV p.k)∧W.cell? (a.add (i*5+3))=some (iV p.i)∧W.cell? (a.add (i*5+4))=some (iV p.w))∧EvI p:=by
  intro i hil
  obtain⟨cs',hc,ht⟩:=hi i (by omega)
  rw[qFL] at hc
  obtain⟨y0,y1,y2,n',_,hlen,t0,t1,t2⟩:=trod_struct3 Tryz.underlying62 ht
  obtain⟨z0,z1,n2,_,hlen2,s0,s1⟩:=trod_struct2 Tryz.underlying23 t0
  obtain⟨z2,z3,n3,_,hlen3,s2,s3⟩:=trod_struct2 Tryz.underlying52 t2
  obtain⟨_,hcl,hat⟩:=World.cells?_some hc
  match cs',hcl with
  | [c0,c1,c2,c3,c4],_=>
   obtain⟨pn,e0,_,w0⟩:=DataW.trod_int Tryz.underlying2 s0
   obtain⟨pd,e1,_,w1⟩:=DataW.trod_int Tryz.underlying2 s1
   obtain⟨pk,e2,_,w2⟩:=DataW.trod_int Tryz.underlying3 t1
   obtain⟨pi,e3,_,w3⟩:=DataW.trod_int Tryz.underlying3 s2
   obtain⟨pw,e4,_,w4⟩:=DataW.trod_int Tryz.underlying3 s3
   simp[qAN,qsS,qAZ,qyY] at e0 e1 e2 e3 e4
   refine⟨⟨pn,pd,pk,pi,pw⟩,⟨?_,?_,?_,?_,?_⟩,qDi w0,qDi w1⟩
   ·have:=hat 0 (by omega);rw[add_add] at this;simpa [e0] using this
   ·have:=hat 1 (by omega);rw[add_add] at this;simpa [e1] using this
   ·have:=hat 2 (by omega);rw[add_add] at this;simpa [e2] using this
   ·have:=hat 3 (by omega);rw[add_add] at this;simpa [e3] using this
   ·have:=hat 4 (by omega);rw[add_add] at this;simpa [e4] using this
 haveI:Inhabited Ev:=⟨⟨0,0,0,0,0⟩⟩
 obtain⟨f,hf⟩:=choose_lt (α:=Ev) each
 refine⟨_,(List.range len).map f,rfl,⟨qbj _,some a,cap,by simp,by simpa using hlc,fun j v hv=>?_⟩,fun p hp=>?_⟩
 ·obtain⟨hk,he⟩:=qAF f len j v hv
  obtain⟨c0,c1,c2,c3,c4⟩:=(hf _ hk).1
  have hcell:W.cell? (a.add j)=some v:=by
   have h5:j%5=0∨j%5=1∨j%5=2∨j%5=3∨j%5=4:=by omega
   have e:j=j/5*5+j%5:=by omega
   rcases h5 with e3 | e3 | e3 | e3 | e3<;>rw[e3] at he e<;>rw[e]<;>simp at he<;>subst he
   ·exact c0
   ·exact c1
   ·exact c2
   ·exact c3
   ·exact c4
  obtain⟨b,off,spot⟩:=a
  have hs:spot=none:=by simpa [Addr.add] using World.cell?_spot (hf 0 (by omega)).1.1
  subst hs
  exact⟨b,off,rfl,by rw[← Go.WideShapes.add_plain];exact hcell⟩
 ·obtain⟨i,hi',rfl⟩:=List.mem_map.1 hp
  exact (hf i (List.mem_range.1 hi')).2
end
end Go.Proofs.YtkjaanhddkkodaaGreat

namespace Go.Proofs.YtkjaanhddkkodaaGreat
set_option maxRecDepth 100000
open Go.RowKit
section
variable {u fr wh:List Int} {b:List Bool} {ev:List Ev}
theorem VA.one {x y:Ev} (h:VA u b fr ev wh) (hx:x∈ev) (hy:y∈ev) (e:x.i=y.i):x=y:=by
 obtain⟨j,hj⟩:=List.mem_iff_getElem?.1 hx
 obtain⟨k,hk⟩:=List.mem_iff_getElem?.1 hy
 have:=h.con.inj hj hk e
 subst this
 rw[hj] at hk
 exact Option.some.inj hk
theorem VA.place {x:Ev} (h:VA u b fr ev wh) (hm:x∈ev):∃ j:Nat,ev[j]?=some x∧wh[x.i.toNat]?=some (j:Int)∧Live u b x.i x.w:=by
 obtain⟨j,hj⟩:=List.mem_iff_getElem?.1 hm
 exact⟨j,hj,(h.own hj).2,(h.own hj).1⟩
section
variable {u2 f2 wh3:List Int} {b2:List Bool} {ev3:List Ev} {gi gw:Int}
end
end
end Go.Proofs.YtkjaanhddkkodaaGreat

namespace Go.Proofs.YtkjaanhddkkodaaGreat
set_option maxRecDepth 100000
open Go.RowKit
theorem qEj (a c d e g:Nat):SV.ag [.ls 7 a,.ls 8 c,.ls 9 d,.ls 11 (0+e),.ls 13 (0+g)]=SV.ag [.ls 7 a,.ls 8 c,.ls 9 d,.ls 11 e,.ls 13 g]:=by rw[Nat.zero_add,Nat.zero_add]
theorem qi9 (e:TypeId) (s n:Nat) (xs:List Value):some (SV.row e s (0+n) ([]++xs))=some (SV.row e s n xs):=by rw[Nat.zero_add,List.nil_append]
abbrev qBt (b:List Bool) (ev:List Ev) (fr:List Int) (u:List Int) (wh:List Int):HpL:=[(0,0,zrI u),(1,0,zrB b),(2,0,zrI fr),(3,0,qar ev),(4,0,zrI wh)]
theorem qGB {u fr wh:List Int} {b:List Bool} {ev:List Ev} (h6:Fn 101 3 [.ag [.ls 0 u.length,.ls 1 b.length,.ls 2 fr.length]] [(0,0,zrI u),(1,0,zrB b),(2,0,zrI fr)] (.ag [.ls 3 u.length,.ls 4 b.length,.ls 5 fr.length]) 3 [(3,0,zrI u),(4,0,zrB b),(5,0,zrI fr)]) (ne:0+ev.length≤1000000) (nw:0+wh.length≤1000000) :
 Fn 54 5 [agA u b fr ev wh] (qBt b ev fr u wh) (.ag [.ls 5 u.length,.ls 6 b.length,.ls 7 fr.length,.ls 8 ev.length,.ls 9 wh.length]) 5 [(5,0,zrI u),(6,0,zrB b),(7,0,zrI fr),(8,0,qar ev),(9,0,zrI wh)]:=
 qaJ 300 [(5,7),(6,8),(7,9),(8,11),(9,13)] [.md,Cf h6 [0,1,2]]
  (qEj u.length b.length fr.length ev.length wh.length) (Ai (Eq.refl (some (zrI u))) (Ai (Eq.refl (some (zrB b))) (Ai (Eq.refl (some (zrI fr))) (Ai (qi9 62 5 ev.length (qaB ev)) (Ai (qi9 3 1 wh.length (ziV wh)) tI))))) (Co h6 [0,1,2] 7 (Ai ne (Ai nw tI))) (by kernel_rfl)
theorem qpG {u fr wh:List Int} {b:List Bool} {ev:List Ev} {hi hw:Int} (hc:Fn 77 5 [agA u b fr ev wh] (qBt b ev fr u wh) (.pv (iV (0))) 0 []) (hl:Fn 132 3 [.ag [.ls 0 u.length,.ls 1 b.length,.ls 2 fr.length],.pv (qaK hi hw)] [(0,0,zrI u),(1,0,zrB b),(2,0,zrI fr)] (.pv (.bool false)) 0 []) :
 Fn 78 5 [agA u b fr ev wh,.pv (qaK hi hw)] (qBt b ev fr u wh) (.pv (.tuple #[.agg #[iV 0,iV 0,iV 0,iV 0,iV 0],iV 6])) 0 []:=
 qaa 300 [] [Cf hc [0,1,2,3,4],.k,Cf hl [0,1,2],.k]
  tI (Co hc [0,1,2,3,4] 8 (Co hl [0,1,2] 8 tI)) (by kernel_rfl)
theorem qBS {u fr wh:List Int} {b:List Bool} {ev:List Ev} {x:Ev} {hi hw:Int} {j:Nat} (hc:Fn 77 5 [agA u b fr ev wh] (qBt b ev fr u wh) (.pv (iV (0))) 0 []) (hl:Fn 132 3 [.ag [.ls 0 u.length,.ls 1 b.length,.ls 2 fr.length],.pv (qaK hi hw)] [(0,0,zrI u),(1,0,zrB b),(2,0,zrI fr)] (.pv (.bool true)) 0 []) (hiw:0≤hi∧hi<(wh.length:Int)) (hw_:wh[hi.toNat]?=some (j:Int)) (hij:0≤(j:Int)∧(j:Int)<(ev.length:Int)) (hx:ev[j]?=some x) :
 Fn 78 5 [agA u b fr ev wh,.pv (qaK hi hw)] (qBt b ev fr u wh) (.pv (.tuple #[qac x,iV 0])) 0 []:=
 qaa 300 [] [Cf hc [0,1,2,3,4],.k,Cf hl [0,1,2],.k,.md,.r (iV (j:Int)),.r (qac x)]
  tI (Co hc [0,1,2,3,4] 8 (Co hl [0,1,2] 8 (Ai hiw (Ai (qdc hw_) (Ai hij (Ai (qaQ hx) tI)))))) (by kernel_rfl)
abbrev qDj (b:List Bool) (ev:List Ev) (fr:List Int) (u:List Int) (wh:List Int):HpL:=[(10,0,.ls 0 u.length),(10,1,.ls 1 b.length),(10,2,.ls 2 fr.length),(10,3,.ls 3 ev.length),(10,4,.ls 4 wh.length),(11,0,.ls 5 u.length),(11,1,.ls 6 b.length),(11,2,.ls 7 fr.length),(11,3,.ls 8 ev.length),(11,4,.ls 9 wh.length),(3,0,qar ev),(8,0,qar ev)]
theorem qpU {u fr wh:List Int} {b:List Bool} {ev:List Ev} {m:Ev} {k:Nat} (hk:ev[k]?=some m) (hin:0≤(k:Int)∧(k:Int)<(ev.length:Int)) (hlt:decide ((k:Int)<(ev.length:Int))=true) (hq:(!((m.n==m.n&&(m.d==m.d&&true))&&(m.k==m.k&&((m.i==m.i&&(m.w==m.w&&true))&&true))))=false) (hs:iV (IntKind.i64.wrap ((k:Int)+1))=iV (((k+1:Nat):Int))) {e:Exit} {tm2:TmL} {hp2:HpL}
 (r:Rl 10 10 67 0 47 12 ([(2,.pp 10 0),(3,.pp 11 0),(5,.pv (iV ((k+1:Nat):Int)))]) (qDj b ev fr u wh) e tm2 hp2):Rl 10 10 67 0 47 12 ([(2,.pp 10 0),(3,.pp 11 0),(5,.pv (iV (k:Int)))]) (qDj b ev fr u wh) e tm2 hp2:=
 RunsL.next [] 300 [.t true,.r (qac m),.r (qac m),.t false,Re hs]
  (qab (Ai hlt (Ai hin (Ai (qaQ hk) (Ai hin (Ai (qaQ hk) (Ai hq (Ai hs tI))))))) (by kernel_rfl)) r
theorem qtX {u fr wh:List Int} {b:List Bool} {ev:List Ev} {k:Nat} (hge:decide ((k:Int)<(ev.length:Int))=false):Rl 10 10 67 0 47 12 ([(2,.pp 10 0),(3,.pp 11 0),(5,.pv (iV (k:Int)))]) (qDj b ev fr u wh) (.exit 0) ([]) ([]):=
 RunsL.stop [] 300 [.t false] (fun h=>by cases h)
  (qab (Ai hge tI) (by kernel_rfl))
theorem qpB {u fr wh:List Int} {b:List Bool} {ev:List Ev} {hi:Int} (h6:Fn 119 6 [.ag [.ls 0 u.length,.ls 1 b.length,.ls 2 fr.length],.ag [.ls 3 u.length,.ls 4 b.length,.ls 5 fr.length]] [(0,0,zrI u),(1,0,zrB b),(2,0,zrI fr),(3,0,zrI u),(4,0,zrB b),(5,0,zrI fr)] (.pv (.bool true)) 0 []) (hi:Fn 120 2 [.ls 0 wh.length,.ls 1 wh.length] [(0,0,zrI wh),(1,0,zrI wh)] (.pv (.bool true)) 0 []) (hle:(!((ev.length:Int)==(ev.length:Int)))=false) (r0:Rl 10 10 67 0 47 12 ([(2,.pp 10 0),(3,.pp 11 0),(5,.pv (iV ((0:Nat):Int)))]) (qDj b ev fr u wh) (.exit 0) ([]) ([])) :
 Fn 67 10 [agA u b fr ev wh,.ag [.ls 5 u.length,.ls 6 b.length,.ls 7 fr.length,.ls 8 ev.length,.ls 9 wh.length]] [(0,0,zrI u),(1,0,zrB b),(2,0,zrI fr),(3,0,qar ev),(4,0,zrI wh),(5,0,zrI u),(6,0,zrB b),(7,0,zrI fr),(8,0,qar ev),(9,0,zrI wh)] (.pv (.bool true)) 0 []:=
 qaa 300 [] [Cf h6 [0,1,2,5,6,7],.k,Cf hi [4,9],.k,.t false,Lf r0]
  tI (Co h6 [0,1,2,5,6,7] 12 (Co hi [4,9] 12 (Ai hle (Lo r0 [] tI)))) (by kernel_rfl)
end Go.Proofs.YtkjaanhddkkodaaGreat

namespace Go.Proofs.YtkjaanhddkkodaaGreat
set_option maxRecDepth 100000
open Go.RowKit
abbrev qFf (b2:List Bool) (ev:List Ev) (f2:List Int) (hi:Int) (hw:Int) (mm:Nat) (n:Nat) (u2:List Int) (wh:List Int):HpL:=[(22,0,.ls 15 u2.length),(22,1,.ls 16 b2.length),(22,2,.ls 17 f2.length),(22,3,.ls 21 n),(22,4,.ls 13 mm),(14,0,.ls 15 u2.length),(14,1,.ls 16 b2.length),(14,2,.ls 17 f2.length),(14,3,.ls 21 n),(14,4,.ls 13 mm),(7,0,.pv (.slice none 0 0)),(7,1,.pv (.slice none 0 0)),(7,2,.pv (.slice none 0 0)),(7,3,.pv (.slice none 0 0)),(7,4,.pv (.slice none 0 0)),(8,0,.pv (iV 0)),(8,1,.pv (iV 0)),(19,0,.pv (iV hi)),(19,1,.pv (iV hw)),(15,0,zrI u2),(16,0,zrB b2),(17,0,zrI f2),(21,0,.row 62 5 n (qaB (ev))),(13,0,.row 3 1 mm (ziV (wh)))]
theorem qlm {wh u2 f2:List Int} {b2:List Bool} {ev:List Ev} {x y:Ev} {hi hw:Int} {k j q n mm:Nat} (n2:¬ (2:Int)=0) (hin_x:0≤(k:Int)∧(k:Int)<(n:Int)) (he_x:ev[k]?=some x) (hin_y:0≤(j:Int)∧(j:Int)<(n:Int)) (he_y:ev[j]?=some y) (h0:decide ((k:Int)>0)=true) (hm1:iV (IntKind.i64.wrap ((k:Int)-1))=iV (q:Int)) (hm2:iV (IntKind.i64.wrap (Int.tdiv (q:Int) 2))=iV (j:Int)) (hl:Pure Tryz.prog 131 #[qac x,qac y] (.bool true)) (hsa:k<(ev).length) (hsb:j<((ev).set k y).length) (h2a:(((ev).set k y).set j x)[k]?=some y) (h2b:(((ev).set k y).set j x)[j]?=some x) (hwb:0≤y.i∧y.i<(mm:Int)) (hwbl:y.i.toNat<(wh).length) (hwa:0≤x.i∧x.i<(mm:Int)) (hwal:x.i.toNat<((wh).set y.i.toNat (k:Int)).length) {e:Exit} {tm2:TmL} {hp2:HpL}
 (r:Rl 5 22 178 0 32 23 ([(1,.pv (iV (j:Int))),(2,.pp 22 0)]) ([(22,0,.ls 15 u2.length),(22,1,.ls 16 b2.length),(22,2,.ls 17 f2.length),(22,3,.ls 21 n),(22,4,.ls 13 mm),(14,0,.ls 15 u2.length),(14,1,.ls 16 b2.length),(14,2,.ls 17 f2.length),(14,3,.ls 21 n),(14,4,.ls 13 mm),(7,0,.pv (.slice none 0 0)),(7,1,.pv (.slice none 0 0)),(7,2,.pv (.slice none 0 0)),(7,3,.pv (.slice none 0 0)),(7,4,.pv (.slice none 0 0)),(8,0,.pv (iV 0)),(8,1,.pv (iV 0)),(19,0,.pv (iV hi)),(19,1,.pv (iV hw)),(15,0,zrI u2),(16,0,zrB b2),(17,0,zrI f2),(21,0,.row 62 5 n (qaB (((ev).set k y).set j x))),(13,0,.row 3 1 mm (ziV (((wh).set y.i.toNat (k:Int)).set x.i.toNat (j:Int))))]) e tm2 hp2):Rl 5 22 178 0 32 23 ([(1,.pv (iV (k:Int))),(2,.pp 22 0)]) (qFf b2 ev f2 hi hw mm n u2 wh) e tm2 hp2:=
 RunsL.next [] 300 [.t true,.r (qac x),Re hm1,Re hm2,.r (qac y),Rf hl,Re hm1,Re hm2,.k,.gh [(23,3)],.r (qac y),.r (qac x),.w (qaB ((ev).set k y)),.w (qaB (((ev).set k y).set j x)),.gh [(23,3),(23,4)],.r (iV (y.i)),.r (iV (x.i)),.w (ziV ((wh).set y.i.toNat (k:Int))),.w (ziV (((wh).set y.i.toNat (k:Int)).set x.i.toNat (j:Int))),Re hm1,Re hm2]
  (qab (Ai h0 (Ai hin_x (Ai (qaQ he_x) (Ai hm1 (Ai n2 (Ai hm2 (Ai hin_y (Ai (qaQ he_y) (Ai hl (Ai hm1 (Ai n2 (Ai hm2 (Ai hin_y (Ai hin_x (Ai (qaQ he_y) (Ai (qaQ he_x) (Ai hin_x (Ai (Eq.refl (some (SV.ls 21 n))) (Ai (qeN (ev) k y hsa) (Ai (qbY (ev) k hsa) (Ai (Eq.refl (some (SV.ls 21 n))) (Ai hin_y (Ai (Eq.refl (some (SV.ls 21 n))) (Ai (qeN ((ev).set k y) j x hsb) (Ai (qbY ((ev).set k y) j hsb) (Ai (Eq.refl (some (SV.ls 21 n))) (Ai hin_x (Ai hin_y (Ai (qiR h2a) (Ai (qiR h2b) (Ai hwb (Ai (Eq.refl (some (SV.ls 21 n))) (Ai (Eq.refl (some (SV.ls 13 mm))) (Ai (qdg (wh) y.i.toNat (k:Int) hwbl) (Ai (qaV (wh) y.i.toNat hwbl) (Ai (Eq.refl (some (SV.ls 21 n))) (Ai (Eq.refl (some (SV.ls 13 mm))) (Ai hwa (Ai (Eq.refl (some (SV.ls 21 n))) (Ai (Eq.refl (some (SV.ls 13 mm))) (Ai (qdg ((wh).set y.i.toNat (k:Int)) x.i.toNat (j:Int) hwal) (Ai (qaV ((wh).set y.i.toNat (k:Int)) x.i.toNat hwal) (Ai (Eq.refl (some (SV.ls 21 n))) (Ai (Eq.refl (some (SV.ls 13 mm))) (Ai hm1 (Ai n2 (Ai hm2 tI))))))))))))))))))))))))))))))))))))))))))))))) (by kernel_rfl)) r
abbrev qGr (b2:List Bool) (ev:List Ev) (f2:List Int) (hi:Int) (hw:Int) (mm:Nat) (n:Nat) (u2:List Int) (wh:List Int):HpL:=[(14,0,.ls 15 u2.length),(14,1,.ls 16 b2.length),(14,2,.ls 17 f2.length),(14,3,.ls 21 n),(14,4,.ls 13 mm),(7,0,.pv (.slice none 0 0)),(7,1,.pv (.slice none 0 0)),(7,2,.pv (.slice none 0 0)),(7,3,.pv (.slice none 0 0)),(7,4,.pv (.slice none 0 0)),(8,0,.pv (iV 0)),(8,1,.pv (iV 0)),(19,0,.pv (iV hi)),(19,1,.pv (iV hw)),(15,0,zrI u2),(16,0,zrB b2),(17,0,zrI f2),(21,0,.row 62 5 n (qaB (ev))),(13,0,.row 3 1 mm (ziV (wh)))]
theorem qlP {wh u2 f2:List Int} {b2:List Bool} {ev:List Ev} {x y:Ev} {hi hw:Int} {k j q n mm:Nat} (n2:¬ (2:Int)=0) (hin_x:0≤(k:Int)∧(k:Int)<(n:Int)) (he_x:ev[k]?=some x) (hin_y:0≤(j:Int)∧(j:Int)<(n:Int)) (he_y:ev[j]?=some y) (h0:decide ((k:Int)>0)=true) (hm1:iV (IntKind.i64.wrap ((k:Int)-1))=iV (q:Int)) (hm2:iV (IntKind.i64.wrap (Int.tdiv (q:Int) 2))=iV (j:Int)) (hl:Pure Tryz.prog 131 #[qac x,qac y] (.bool false)):Rl 5 22 178 0 32 23 ([(1,.pv (iV (k:Int))),(2,.pp 22 0)]) (qFf b2 ev f2 hi hw mm n u2 wh) (.exit 0) ([(1,.pv (iV (k:Int)))]) (qGr b2 ev f2 hi hw mm n u2 wh):=
 RunsL.stop [] 300 [.t true,.r (qac x),Re hm1,Re hm2,.r (qac y),Rf hl] (fun h=>by cases h)
  (qab (Ai h0 (Ai hin_x (Ai (qaQ he_x) (Ai hm1 (Ai n2 (Ai hm2 (Ai hin_y (Ai (qaQ he_y) (Ai hl tI))))))))) (by kernel_rfl))
theorem qlL {wh u2 f2:List Int} {b2:List Bool} {ev:List Ev} {hi hw:Int} {k n mm:Nat} (h0:decide ((k:Int)>0)=false):Rl 5 22 178 0 32 23 ([(1,.pv (iV (k:Int))),(2,.pp 22 0)]) (qFf b2 ev f2 hi hw mm n u2 wh) (.exit 0) ([(1,.pv (iV (k:Int)))]) (qGr b2 ev f2 hi hw mm n u2 wh):=
 RunsL.stop [] 300 [.t false] (fun h=>by cases h)
  (qab (Ai h0 tI) (by kernel_rfl))
theorem qqJ (g:List Ev) (x:Ev):some (SV.row 62 5 (g.length+1) (qaB g++ecV x))=some (SV.row 62 5 (g.length+1) (qaB (g++[x]))):=by rw[qcD];rfl
theorem qsm {u fr wh u2 f2 wh3:List Int} {b b2:List Bool} {ev ev3:List Ev} {z tn td hi hw:Int} {p la:Nat} (htw:Fn 54 5 [agA u b fr ev wh] [(0,0,zrI u),(1,0,zrB b),(2,0,zrI fr),(3,0,qar ev),(4,0,zrI wh)] (.ag [.ls 5 u.length,.ls 6 b.length,.ls 7 fr.length,.ls 8 ev.length,.ls 9 wh.length]) 5 [(5,0,zrI u),(6,0,zrB b),(7,0,zrI fr),(8,0,qar ev),(9,0,zrI wh)]) (htk:Fn 177 3 [.ag [.ls 0 u.length,.ls 1 b.length,.ls 2 fr.length]] [(0,0,zrI u),(1,0,zrB b),(2,0,zrI fr)] (.tu [.ag [.ls 3 u2.length,.ls 4 b2.length,.ls 5 f2.length],.one (.pv (qaK hi hw))]) 3 [(3,0,zrI u2),(4,0,zrB b2),(5,0,zrI f2)]) (hl:ev.length+1≤1000000) (hla:iV (IntKind.i64.wrap (((ev.length+1:Nat):Int)-1))=iV (la:Int)) (hiw:0≤hi∧hi<(wh.length:Int)) (hws:hi.toNat<wh.length) (r0:Rl 5 22 178 0 32 23 ([(1,.pv (iV (la:Int))),(2,.pp 22 0)]) ([(22,0,.ls 15 u2.length),(22,1,.ls 16 b2.length),(22,2,.ls 17 f2.length),(22,3,.ls 21 (ev.length+1)),(22,4,.ls 13 wh.length),(14,0,.ls 15 u2.length),(14,1,.ls 16 b2.length),(14,2,.ls 17 f2.length),(14,3,.ls 21 (ev.length+1)),(14,4,.ls 13 wh.length),(7,0,.pv (.slice none 0 0)),(7,1,.pv (.slice none 0 0)),(7,2,.pv (.slice none 0 0)),(7,3,.pv (.slice none 0 0)),(7,4,.pv (.slice none 0 0)),(8,0,.pv (iV 0)),(8,1,.pv (iV 0)),(19,0,.pv (iV hi)),(19,1,.pv (iV hw)),(15,0,zrI u2),(16,0,zrB b2),(17,0,zrI f2),(21,0,.row 62 5 (ev.length+1) (qaB (ev++[⟨tn,td,z,hi,hw⟩]))),(13,0,.row 3 1 wh.length (ziV (wh.set hi.toNat (la:Int))))]) (.exit 0) ([(1,.pv (iV (p:Int)))]) ([(14,0,.ls 15 u2.length),(14,1,.ls 16 b2.length),(14,2,.ls 17 f2.length),(14,3,.ls 21 (ev.length+1)),(14,4,.ls 13 wh.length),(7,0,.pv (.slice none 0 0)),(7,1,.pv (.slice none 0 0)),(7,2,.pv (.slice none 0 0)),(7,3,.pv (.slice none 0 0)),(7,4,.pv (.slice none 0 0)),(8,0,.pv (iV 0)),(8,1,.pv (iV 0)),(19,0,.pv (iV hi)),(19,1,.pv (iV hw)),(15,0,zrI u2),(16,0,zrB b2),(17,0,zrI f2),(21,0,.row 62 5 (ev.length+1) (qaB (ev3))),(13,0,.row 3 1 wh.length (ziV (wh3)))])) :
 Fn 124 5 [agA u b fr ev wh,.pv (qad tn td),.pv (iV (z))] [(0,0,zrI u),(1,0,zrB b),(2,0,zrI fr),(3,0,qar ev),(4,0,zrI wh)] (.tu [.ag [.ls 5 u2.length,.ls 6 b2.length,.ls 7 f2.length,.ls 8 (ev.length+1),.ls 9 wh.length],.one (.pv (qaK hi hw))]) 5 [(5,0,zrI u2),(6,0,zrB b2),(7,0,zrI f2),(8,0,.row 62 5 (ev.length+1) (qaB (ev3))),(9,0,.row 3 1 wh.length (ziV (wh3)))]:=
 qaa 300 [(5,15),(6,16),(7,17),(8,21),(9,13)] [Cf htw [0,1,2,3,4],Cf htk [9,10,11],.r (iV (la:Int)),.w (ziV (wh.set hi.toNat (la:Int))),.r (iV (la:Int)),.k,Lf r0]
  (qaF (qaP [(5,15),(6,16),(7,17),(8,21),(9,13)]) [(5,0,zrI u2),(6,0,zrB b2),(7,0,zrI f2),(8,0,.row 62 5 (ev.length+1) (qaB (ev3))),(9,0,.row 3 1 wh.length (ziV (wh3)))]) (Co htw [0,1,2,3,4] 9 (Co htk [9,10,11] 15 (Ai hl (Ai hla (Ai hiw (Ai (qdg wh hi.toNat (la:Int) hws) (Ai (qaV wh hi.toNat hws) (Ai hla (Ai (Lt r0 []) (Ai (Ai (Eq.refl (some (SV.ls 15 u2.length))) (Ai (Eq.refl (some (SV.ls 16 b2.length))) (Ai (Eq.refl (some (SV.ls 17 f2.length))) (Ai (Eq.refl (some (SV.ls 21 (ev.length+1)))) (Ai (Eq.refl (some (SV.ls 13 wh.length))) (Ai (Eq.refl (some (SV.ls 15 u2.length))) (Ai (Eq.refl (some (SV.ls 16 b2.length))) (Ai (Eq.refl (some (SV.ls 17 f2.length))) (Ai (Eq.refl (some (SV.ls 21 (ev.length+1)))) (Ai (Eq.refl (some (SV.ls 13 wh.length))) (Ai (Eq.refl (some (SV.pv (.slice none 0 0)))) (Ai (Eq.refl (some (SV.pv (.slice none 0 0)))) (Ai (Eq.refl (some (SV.pv (.slice none 0 0)))) (Ai (Eq.refl (some (SV.pv (.slice none 0 0)))) (Ai (Eq.refl (some (SV.pv (.slice none 0 0)))) (Ai (Eq.refl (some (SV.pv (iV 0)))) (Ai (Eq.refl (some (SV.pv (iV 0)))) (Ai (Eq.refl (some (SV.pv (iV hi)))) (Ai (Eq.refl (some (SV.pv (iV hw)))) (Ai (Eq.refl (some (zrI u2))) (Ai (Eq.refl (some (zrB b2))) (Ai (Eq.refl (some (zrI f2))) (Ai (qqJ ev ⟨tn,td,z,hi,hw⟩) (Ai (Eq.refl (some (SV.row 3 1 wh.length (ziV (wh.set hi.toNat (la:Int)))))) tI)))))))))))))))))))))))) (Ai r0 tI))))))))))) (by kernel_rfl)
end Go.Proofs.YtkjaanhddkkodaaGreat

namespace Go.Proofs.YtkjaanhddkkodaaGreat
set_option maxRecDepth 100000
open Go.RowKit
abbrev qGl (b2:List Bool) (ev:List Ev) (f2:List Int) (mm:Nat) (n:Nat) (u2:List Int) (wh:List Int):HpL:=[(19,0,.ls 16 u2.length),(19,1,.ls 17 b2.length),(19,2,.ls 18 f2.length),(19,3,.ls 15 n),(19,4,.ls 12 mm),(13,0,.ls 16 u2.length),(13,1,.ls 17 b2.length),(13,2,.ls 18 f2.length),(13,3,.ls 15 n),(13,4,.ls 12 mm),(7,0,.pv (.slice none 0 0)),(7,1,.pv (.slice none 0 0)),(7,2,.pv (.slice none 0 0)),(7,3,.pv (.slice none 0 0)),(7,4,.pv (.slice none 0 0)),(16,0,zrI u2),(17,0,zrB b2),(18,0,zrI f2),(15,0,.row 62 5 n (qaB (ev))),(12,0,.row 3 1 mm (ziV (wh)))]
abbrev qDs (k:Nat):TmL:=[(1,.pv (iV (k:Int))),(2,.pp 19 0)]
theorem qiC {wh u2 f2:List Int} {b2:List Bool} {ev:List Ev} {x y:Ev} {k j q n mm:Nat} (n2:¬ (2:Int)=0) (hin_x:0≤(k:Int)∧(k:Int)<(n:Int)) (he_x:ev[k]?=some x) (hin_y:0≤(j:Int)∧(j:Int)<(n:Int)) (he_y:ev[j]?=some y) (h0:decide ((k:Int)>0)=true) (hm1:iV (IntKind.i64.wrap ((k:Int)-1))=iV (q:Int)) (hm2:iV (IntKind.i64.wrap (Int.tdiv (q:Int) 2))=iV (j:Int)) (hl:Pure Tryz.prog 131 #[qac x,qac y] (.bool true)) (hsa:k<(ev).length) (hsb:j<((ev).set k y).length) (h2a:(((ev).set k y).set j x)[k]?=some y) (h2b:(((ev).set k y).set j x)[j]?=some x) (hwb:0≤y.i∧y.i<(mm:Int)) (hwbl:y.i.toNat<(wh).length) (hwa:0≤x.i∧x.i<(mm:Int)) (hwal:x.i.toNat<((wh).set y.i.toNat (k:Int)).length) {e:Exit} {tm2:TmL} {hp2:HpL}
 (r:Rl 5 19 178 0 32 20 ([(1,.pv (iV (j:Int))),(2,.pp 19 0)]) ([(19,0,.ls 16 u2.length),(19,1,.ls 17 b2.length),(19,2,.ls 18 f2.length),(19,3,.ls 15 n),(19,4,.ls 12 mm),(13,0,.ls 16 u2.length),(13,1,.ls 17 b2.length),(13,2,.ls 18 f2.length),(13,3,.ls 15 n),(13,4,.ls 12 mm),(7,0,.pv (.slice none 0 0)),(7,1,.pv (.slice none 0 0)),(7,2,.pv (.slice none 0 0)),(7,3,.pv (.slice none 0 0)),(7,4,.pv (.slice none 0 0)),(16,0,zrI u2),(17,0,zrB b2),(18,0,zrI f2),(15,0,.row 62 5 n (qaB (((ev).set k y).set j x))),(12,0,.row 3 1 mm (ziV (((wh).set y.i.toNat (k:Int)).set x.i.toNat (j:Int))))]) e tm2 hp2):Rl 5 19 178 0 32 20 (qDs k) (qGl b2 ev f2 mm n u2 wh) e tm2 hp2:=
 RunsL.next [] 300 [.t true,.r (qac x),Re hm1,Re hm2,.r (qac y),Rf hl,Re hm1,Re hm2,.k,.gh [(20,3)],.r (qac y),.r (qac x),.w (qaB ((ev).set k y)),.w (qaB (((ev).set k y).set j x)),.gh [(20,3),(20,4)],.r (iV (y.i)),.r (iV (x.i)),.w (ziV ((wh).set y.i.toNat (k:Int))),.w (ziV (((wh).set y.i.toNat (k:Int)).set x.i.toNat (j:Int))),Re hm1,Re hm2]
  (qab (Ai h0 (Ai hin_x (Ai (qaQ he_x) (Ai hm1 (Ai n2 (Ai hm2 (Ai hin_y (Ai (qaQ he_y) (Ai hl (Ai hm1 (Ai n2 (Ai hm2 (Ai hin_y (Ai hin_x (Ai (qaQ he_y) (Ai (qaQ he_x) (Ai hin_x (Ai (Eq.refl (some (SV.ls 15 n))) (Ai (qeN (ev) k y hsa) (Ai (qbY (ev) k hsa) (Ai (Eq.refl (some (SV.ls 15 n))) (Ai hin_y (Ai (Eq.refl (some (SV.ls 15 n))) (Ai (qeN ((ev).set k y) j x hsb) (Ai (qbY ((ev).set k y) j hsb) (Ai (Eq.refl (some (SV.ls 15 n))) (Ai hin_x (Ai hin_y (Ai (qiR h2a) (Ai (qiR h2b) (Ai hwb (Ai (Eq.refl (some (SV.ls 15 n))) (Ai (Eq.refl (some (SV.ls 12 mm))) (Ai (qdg (wh) y.i.toNat (k:Int) hwbl) (Ai (qaV (wh) y.i.toNat hwbl) (Ai (Eq.refl (some (SV.ls 15 n))) (Ai (Eq.refl (some (SV.ls 12 mm))) (Ai hwa (Ai (Eq.refl (some (SV.ls 15 n))) (Ai (Eq.refl (some (SV.ls 12 mm))) (Ai (qdg ((wh).set y.i.toNat (k:Int)) x.i.toNat (j:Int) hwal) (Ai (qaV ((wh).set y.i.toNat (k:Int)) x.i.toNat hwal) (Ai (Eq.refl (some (SV.ls 15 n))) (Ai (Eq.refl (some (SV.ls 12 mm))) (Ai hm1 (Ai n2 (Ai hm2 tI))))))))))))))))))))))))))))))))))))))))))))))) (by kernel_rfl)) r
abbrev qyj (b2:List Bool) (ev:List Ev) (f2:List Int) (mm:Nat) (n:Nat) (u2:List Int) (wh:List Int):HpL:=[(13,0,.ls 16 u2.length),(13,1,.ls 17 b2.length),(13,2,.ls 18 f2.length),(13,3,.ls 15 n),(13,4,.ls 12 mm),(7,0,.pv (.slice none 0 0)),(7,1,.pv (.slice none 0 0)),(7,2,.pv (.slice none 0 0)),(7,3,.pv (.slice none 0 0)),(7,4,.pv (.slice none 0 0)),(16,0,zrI u2),(17,0,zrB b2),(18,0,zrI f2),(15,0,.row 62 5 n (qaB (ev))),(12,0,.row 3 1 mm (ziV (wh)))]
theorem qiJ {wh u2 f2:List Int} {b2:List Bool} {ev:List Ev} {x y:Ev} {k j q n mm:Nat} (n2:¬ (2:Int)=0) (hin_x:0≤(k:Int)∧(k:Int)<(n:Int)) (he_x:ev[k]?=some x) (hin_y:0≤(j:Int)∧(j:Int)<(n:Int)) (he_y:ev[j]?=some y) (h0:decide ((k:Int)>0)=true) (hm1:iV (IntKind.i64.wrap ((k:Int)-1))=iV (q:Int)) (hm2:iV (IntKind.i64.wrap (Int.tdiv (q:Int) 2))=iV (j:Int)) (hl:Pure Tryz.prog 131 #[qac x,qac y] (.bool false)):Rl 5 19 178 0 32 20 (qDs k) (qGl b2 ev f2 mm n u2 wh) (.exit 0) ([(1,.pv (iV (k:Int)))]) (qyj b2 ev f2 mm n u2 wh):=
 RunsL.stop [] 300 [.t true,.r (qac x),Re hm1,Re hm2,.r (qac y),Rf hl] (fun h=>by cases h)
  (qab (Ai h0 (Ai hin_x (Ai (qaQ he_x) (Ai hm1 (Ai n2 (Ai hm2 (Ai hin_y (Ai (qaQ he_y) (Ai hl tI))))))))) (by kernel_rfl))
theorem qjh {wh u2 f2:List Int} {b2:List Bool} {ev:List Ev} {k n mm:Nat} (h0:decide ((k:Int)>0)=false):Rl 5 19 178 0 32 20 (qDs k) (qGl b2 ev f2 mm n u2 wh) (.exit 0) ([(1,.pv (iV (k:Int)))]) (qyj b2 ev f2 mm n u2 wh):=
 RunsL.stop [] 300 [.t false] (fun h=>by cases h)
  (qab (Ai h0 tI) (by kernel_rfl))
abbrev quA (b2:List Bool) (ev:List Ev) (f2:List Int) (mm:Nat) (n:Nat) (u2:List Int) (wh:List Int):HpL:=[(20,0,.ls 16 u2.length),(20,1,.ls 17 b2.length),(20,2,.ls 18 f2.length),(20,3,.ls 15 n),(20,4,.ls 12 mm),(13,0,.ls 16 u2.length),(13,1,.ls 17 b2.length),(13,2,.ls 18 f2.length),(13,3,.ls 15 n),(13,4,.ls 12 mm),(7,0,.pv (.slice none 0 0)),(7,1,.pv (.slice none 0 0)),(7,2,.pv (.slice none 0 0)),(7,3,.pv (.slice none 0 0)),(7,4,.pv (.slice none 0 0)),(16,0,zrI u2),(17,0,zrB b2),(18,0,zrI f2),(15,0,.row 62 5 n (qaB (ev))),(12,0,.row 3 1 mm (ziV (wh)))]
abbrev qtM (k:Nat):TmL:=[(1,.pv (iV (k:Int))),(2,.pp 20 0)]
theorem qjx {wh u2 f2:List Int} {b2:List Bool} {ev:List Ev} {k q n mm:Nat} (hq:iV (IntKind.i64.wrap (2*(k:Int)))=iV (q:Int)) (hq1:iV (IntKind.i64.wrap ((q:Int)+1))=iV (((q+1:Nat):Int))) (hge:decide (((q+1:Nat):Int)≥(n:Int))=true):Rl 5 20 181 0 52 21 (qtM k) (quA b2 ev f2 mm n u2 wh) (.ret) ([]) (qyj b2 ev f2 mm n u2 wh):=
 RunsL.stop [] 300 [Re hq,Re hq1,.t true] (fun h=>by cases h)
  (qab (Ai hq (Ai hq1 (Ai hge tI))) (by kernel_rfl))
abbrev qGY (b2:List Bool) (ev:List Ev) (f2:List Int) (k:Nat) (m:Ev) (mm:Nat) (n:Nat) (q:Nat) (u2:List Int) (wh:List Int) (x:Ev):HpL:=[(20,0,.ls 16 u2.length),(20,1,.ls 17 b2.length),(20,2,.ls 18 f2.length),(20,3,.ls 15 n),(20,4,.ls 12 mm),(13,0,.ls 16 u2.length),(13,1,.ls 17 b2.length),(13,2,.ls 18 f2.length),(13,3,.ls 15 n),(13,4,.ls 12 mm),(7,0,.pv (.slice none 0 0)),(7,1,.pv (.slice none 0 0)),(7,2,.pv (.slice none 0 0)),(7,3,.pv (.slice none 0 0)),(7,4,.pv (.slice none 0 0)),(16,0,zrI u2),(17,0,zrB b2),(18,0,zrI f2),(15,0,.row 62 5 n (qaB (((ev).set k m).set (q+1:Nat) x))),(12,0,.row 3 1 mm (ziV (((wh).set m.i.toNat (k:Int)).set x.i.toNat ((q+1:Nat):Int))))]
theorem qfH {wh u2 f2:List Int} {b2:List Bool} {ev:List Ev} {x m:Ev} {k q n mm:Nat} (hq:iV (IntKind.i64.wrap (2*(k:Int)))=iV (q:Int)) (hq1:iV (IntKind.i64.wrap ((q:Int)+1))=iV (((q+1:Nat):Int))) (hge:decide (((q+1:Nat):Int)≥(n:Int))=false) (hq2:iV (IntKind.i64.wrap (((q+1:Nat):Int)+1))=iV (((q+2:Nat):Int))) (h2:decide (((q+2:Nat):Int)<(n:Int))=false) (hin_m:0≤((q+1:Nat):Int)∧((q+1:Nat):Int)<(n:Int)) (he_m:ev[(q+1:Nat)]?=some m) (hin_x:0≤(k:Int)∧(k:Int)<(n:Int)) (he_x:ev[k]?=some x) (hl:Pure Tryz.prog 131 #[qac m,qac x] (.bool true)) (hsa:k<(ev).length) (hsb:(q+1:Nat)<((ev).set k m).length) (h2a:(((ev).set k m).set (q+1:Nat) x)[k]?=some m) (h2b:(((ev).set k m).set (q+1:Nat) x)[(q+1:Nat)]?=some x) (hwb:0≤m.i∧m.i<(mm:Int)) (hwbl:m.i.toNat<(wh).length) (hwa:0≤x.i∧x.i<(mm:Int)) (hwal:x.i.toNat<((wh).set m.i.toNat (k:Int)).length) {e:Exit} {tm2:TmL} {hp2:HpL}
 (r:Rl 5 20 181 0 52 21 ([(1,.pv (iV ((q+1:Nat):Int))),(2,.pp 20 0)]) (qGY b2 ev f2 k m mm n q u2 wh x) e tm2 hp2):Rl 5 20 181 0 52 21 (qtM k) (quA b2 ev f2 mm n u2 wh) e tm2 hp2:=
 RunsL.next [] 300 [Re hq,Re hq1,.t false,.r (iV (((q+2:Nat):Int))),.t false,.r (qac m),.r (qac x),Rf hl,.k,.k,.gh [(21,3)],.r (qac m),.r (qac x),.w (qaB ((ev).set k m)),.w (qaB (((ev).set k m).set (q+1:Nat) x)),.gh [(21,3),(21,4)],.r (iV (m.i)),.r (iV (x.i)),.w (ziV ((wh).set m.i.toNat (k:Int))),.w (ziV (((wh).set m.i.toNat (k:Int)).set x.i.toNat ((q+1:Nat):Int)))]
  (qab (Ai hq (Ai hq1 (Ai hge (Ai hq2 (Ai h2 (Ai hin_m (Ai (qaQ he_m) (Ai hin_x (Ai (qaQ he_x) (Ai hl (Ai hin_m (Ai hin_x (Ai (qaQ he_m) (Ai (qaQ he_x) (Ai hin_x (Ai (Eq.refl (some (SV.ls 15 n))) (Ai (qeN (ev) k m hsa) (Ai (qbY (ev) k hsa) (Ai (Eq.refl (some (SV.ls 15 n))) (Ai hin_m (Ai (Eq.refl (some (SV.ls 15 n))) (Ai (qeN ((ev).set k m) (q+1:Nat) x hsb) (Ai (qbY ((ev).set k m) (q+1:Nat) hsb) (Ai (Eq.refl (some (SV.ls 15 n))) (Ai hin_x (Ai hin_m (Ai (qiR h2a) (Ai (qiR h2b) (Ai hwb (Ai (Eq.refl (some (SV.ls 15 n))) (Ai (Eq.refl (some (SV.ls 12 mm))) (Ai (qdg (wh) m.i.toNat (k:Int) hwbl) (Ai (qaV (wh) m.i.toNat hwbl) (Ai (Eq.refl (some (SV.ls 15 n))) (Ai (Eq.refl (some (SV.ls 12 mm))) (Ai hwa (Ai (Eq.refl (some (SV.ls 15 n))) (Ai (Eq.refl (some (SV.ls 12 mm))) (Ai (qdg ((wh).set m.i.toNat (k:Int)) x.i.toNat ((q+1:Nat):Int) hwal) (Ai (qaV ((wh).set m.i.toNat (k:Int)) x.i.toNat hwal) (Ai (Eq.refl (some (SV.ls 15 n))) (Ai (Eq.refl (some (SV.ls 12 mm))) tI)))))))))))))))))))))))))))))))))))))))))) (by kernel_rfl)) r
theorem qfa {wh u2 f2:List Int} {b2:List Bool} {ev:List Ev} {x m:Ev} {k q n mm:Nat} (hq:iV (IntKind.i64.wrap (2*(k:Int)))=iV (q:Int)) (hq1:iV (IntKind.i64.wrap ((q:Int)+1))=iV (((q+1:Nat):Int))) (hge:decide (((q+1:Nat):Int)≥(n:Int))=false) (hq2:iV (IntKind.i64.wrap (((q+1:Nat):Int)+1))=iV (((q+2:Nat):Int))) (h2:decide (((q+2:Nat):Int)<(n:Int))=false) (hin_m:0≤((q+1:Nat):Int)∧((q+1:Nat):Int)<(n:Int)) (he_m:ev[(q+1:Nat)]?=some m) (hin_x:0≤(k:Int)∧(k:Int)<(n:Int)) (he_x:ev[k]?=some x) (hl:Pure Tryz.prog 131 #[qac m,qac x] (.bool false)):Rl 5 20 181 0 52 21 (qtM k) (quA b2 ev f2 mm n u2 wh) (.ret) ([]) (qyj b2 ev f2 mm n u2 wh):=
 RunsL.stop [] 300 [Re hq,Re hq1,.t false,.r (iV (((q+2:Nat):Int))),.t false,.r (qac m),.r (qac x),Rf hl,.k] (fun h=>by cases h)
  (qab (Ai hq (Ai hq1 (Ai hge (Ai hq2 (Ai h2 (Ai hin_m (Ai (qaQ he_m) (Ai hin_x (Ai (qaQ he_x) (Ai hl tI)))))))))) (by kernel_rfl))
theorem qeM {wh u2 f2:List Int} {b2:List Bool} {ev:List Ev} {x y m:Ev} {k q n mm:Nat} (hq:iV (IntKind.i64.wrap (2*(k:Int)))=iV (q:Int)) (hq1:iV (IntKind.i64.wrap ((q:Int)+1))=iV (((q+1:Nat):Int))) (hge:decide (((q+1:Nat):Int)≥(n:Int))=false) (hq2:iV (IntKind.i64.wrap (((q+1:Nat):Int)+1))=iV (((q+2:Nat):Int))) (h2:decide (((q+2:Nat):Int)<(n:Int))=true) (hin_y:0≤((q+2:Nat):Int)∧((q+2:Nat):Int)<(n:Int)) (he_y:ev[(q+2:Nat)]?=some y) (hin_m:0≤((q+1:Nat):Int)∧((q+1:Nat):Int)<(n:Int)) (he_m:ev[(q+1:Nat)]?=some m) (hl2:Pure Tryz.prog 131 #[qac y,qac m] (.bool false)) (hin_x:0≤(k:Int)∧(k:Int)<(n:Int)) (he_x:ev[k]?=some x) (hl:Pure Tryz.prog 131 #[qac m,qac x] (.bool true)) (hsa:k<(ev).length) (hsb:(q+1:Nat)<((ev).set k m).length) (h2a:(((ev).set k m).set (q+1:Nat) x)[k]?=some m) (h2b:(((ev).set k m).set (q+1:Nat) x)[(q+1:Nat)]?=some x) (hwb:0≤m.i∧m.i<(mm:Int)) (hwbl:m.i.toNat<(wh).length) (hwa:0≤x.i∧x.i<(mm:Int)) (hwal:x.i.toNat<((wh).set m.i.toNat (k:Int)).length) {e:Exit} {tm2:TmL} {hp2:HpL}
 (r:Rl 5 20 181 0 52 21 ([(1,.pv (iV ((q+1:Nat):Int))),(2,.pp 20 0)]) (qGY b2 ev f2 k m mm n q u2 wh x) e tm2 hp2):Rl 5 20 181 0 52 21 (qtM k) (quA b2 ev f2 mm n u2 wh) e tm2 hp2:=
 RunsL.next [] 300 [Re hq,Re hq1,.t false,.r (iV (((q+2:Nat):Int))),.t true,.r (iV (((q+2:Nat):Int))),.r (qac y),.r (qac m),Rf hl2,.r (qac m),.r (qac x),Rf hl,.k,.k,.gh [(21,3)],.r (qac m),.r (qac x),.w (qaB ((ev).set k m)),.w (qaB (((ev).set k m).set (q+1:Nat) x)),.gh [(21,3),(21,4)],.r (iV (m.i)),.r (iV (x.i)),.w (ziV ((wh).set m.i.toNat (k:Int))),.w (ziV (((wh).set m.i.toNat (k:Int)).set x.i.toNat ((q+1:Nat):Int)))]
  (qab (Ai hq (Ai hq1 (Ai hge (Ai hq2 (Ai h2 (Ai hq2 (Ai hin_y (Ai (qaQ he_y) (Ai hin_m (Ai (qaQ he_m) (Ai hl2 (Ai hin_m (Ai (qaQ he_m) (Ai hin_x (Ai (qaQ he_x) (Ai hl (Ai hin_m (Ai hin_x (Ai (qaQ he_m) (Ai (qaQ he_x) (Ai hin_x (Ai (Eq.refl (some (SV.ls 15 n))) (Ai (qeN (ev) k m hsa) (Ai (qbY (ev) k hsa) (Ai (Eq.refl (some (SV.ls 15 n))) (Ai hin_m (Ai (Eq.refl (some (SV.ls 15 n))) (Ai (qeN ((ev).set k m) (q+1:Nat) x hsb) (Ai (qbY ((ev).set k m) (q+1:Nat) hsb) (Ai (Eq.refl (some (SV.ls 15 n))) (Ai hin_x (Ai hin_m (Ai (qiR h2a) (Ai (qiR h2b) (Ai hwb (Ai (Eq.refl (some (SV.ls 15 n))) (Ai (Eq.refl (some (SV.ls 12 mm))) (Ai (qdg (wh) m.i.toNat (k:Int) hwbl) (Ai (qaV (wh) m.i.toNat hwbl) (Ai (Eq.refl (some (SV.ls 15 n))) (Ai (Eq.refl (some (SV.ls 12 mm))) (Ai hwa (Ai (Eq.refl (some (SV.ls 15 n))) (Ai (Eq.refl (some (SV.ls 12 mm))) (Ai (qdg ((wh).set m.i.toNat (k:Int)) x.i.toNat ((q+1:Nat):Int) hwal) (Ai (qaV ((wh).set m.i.toNat (k:Int)) x.i.toNat hwal) (Ai (Eq.refl (some (SV.ls 15 n))) (Ai (Eq.refl (some (SV.ls 12 mm))) tI)))))))))))))))))))))))))))))))))))))))))))))))) (by kernel_rfl)) r
theorem qeO {wh u2 f2:List Int} {b2:List Bool} {ev:List Ev} {x y m:Ev} {k q n mm:Nat} (hq:iV (IntKind.i64.wrap (2*(k:Int)))=iV (q:Int)) (hq1:iV (IntKind.i64.wrap ((q:Int)+1))=iV (((q+1:Nat):Int))) (hge:decide (((q+1:Nat):Int)≥(n:Int))=false) (hq2:iV (IntKind.i64.wrap (((q+1:Nat):Int)+1))=iV (((q+2:Nat):Int))) (h2:decide (((q+2:Nat):Int)<(n:Int))=true) (hin_y:0≤((q+2:Nat):Int)∧((q+2:Nat):Int)<(n:Int)) (he_y:ev[(q+2:Nat)]?=some y) (hin_m:0≤((q+1:Nat):Int)∧((q+1:Nat):Int)<(n:Int)) (he_m:ev[(q+1:Nat)]?=some m) (hl2:Pure Tryz.prog 131 #[qac y,qac m] (.bool false)) (hin_x:0≤(k:Int)∧(k:Int)<(n:Int)) (he_x:ev[k]?=some x) (hl:Pure Tryz.prog 131 #[qac m,qac x] (.bool false)):Rl 5 20 181 0 52 21 (qtM k) (quA b2 ev f2 mm n u2 wh) (.ret) ([]) (qyj b2 ev f2 mm n u2 wh):=
 RunsL.stop [] 300 [Re hq,Re hq1,.t false,.r (iV (((q+2:Nat):Int))),.t true,.r (iV (((q+2:Nat):Int))),.r (qac y),.r (qac m),Rf hl2,.r (qac m),.r (qac x),Rf hl2,.k] (fun h=>by cases h)
  (qab (Ai hq (Ai hq1 (Ai hge (Ai hq2 (Ai h2 (Ai hq2 (Ai hin_y (Ai (qaQ he_y) (Ai hin_m (Ai (qaQ he_m) (Ai hl2 (Ai hin_m (Ai (qaQ he_m) (Ai hin_x (Ai (qaQ he_x) (Ai hl tI)))))))))))))))) (by kernel_rfl))
theorem qeu {wh u2 f2:List Int} {b2:List Bool} {ev:List Ev} {x y m:Ev} {k q n mm:Nat} (hq:iV (IntKind.i64.wrap (2*(k:Int)))=iV (q:Int)) (hq1:iV (IntKind.i64.wrap ((q:Int)+1))=iV (((q+1:Nat):Int))) (hge:decide (((q+1:Nat):Int)≥(n:Int))=false) (hq2:iV (IntKind.i64.wrap (((q+1:Nat):Int)+1))=iV (((q+2:Nat):Int))) (h2:decide (((q+2:Nat):Int)<(n:Int))=true) (hin_y:0≤((q+2:Nat):Int)∧((q+2:Nat):Int)<(n:Int)) (he_y:ev[(q+2:Nat)]?=some y) (hin_m:0≤((q+1:Nat):Int)∧((q+1:Nat):Int)<(n:Int)) (he_m:ev[(q+1:Nat)]?=some m) (hl2:Pure Tryz.prog 131 #[qac y,qac m] (.bool true)) (hin_x:0≤(k:Int)∧(k:Int)<(n:Int)) (he_x:ev[k]?=some x) (hl:Pure Tryz.prog 131 #[qac y,qac x] (.bool true)) (hsa:k<(ev).length) (hsb:(q+2:Nat)<((ev).set k y).length) (h2a:(((ev).set k y).set (q+2:Nat) x)[k]?=some y) (h2b:(((ev).set k y).set (q+2:Nat) x)[(q+2:Nat)]?=some x) (hwb:0≤y.i∧y.i<(mm:Int)) (hwbl:y.i.toNat<(wh).length) (hwa:0≤x.i∧x.i<(mm:Int)) (hwal:x.i.toNat<((wh).set y.i.toNat (k:Int)).length) {e:Exit} {tm2:TmL} {hp2:HpL}
 (r:Rl 5 20 181 0 52 21 ([(1,.pv (iV ((q+2:Nat):Int))),(2,.pp 20 0)]) ([(20,0,.ls 16 u2.length),(20,1,.ls 17 b2.length),(20,2,.ls 18 f2.length),(20,3,.ls 15 n),(20,4,.ls 12 mm),(13,0,.ls 16 u2.length),(13,1,.ls 17 b2.length),(13,2,.ls 18 f2.length),(13,3,.ls 15 n),(13,4,.ls 12 mm),(7,0,.pv (.slice none 0 0)),(7,1,.pv (.slice none 0 0)),(7,2,.pv (.slice none 0 0)),(7,3,.pv (.slice none 0 0)),(7,4,.pv (.slice none 0 0)),(16,0,zrI u2),(17,0,zrB b2),(18,0,zrI f2),(15,0,.row 62 5 n (qaB (((ev).set k y).set (q+2:Nat) x))),(12,0,.row 3 1 mm (ziV (((wh).set y.i.toNat (k:Int)).set x.i.toNat ((q+2:Nat):Int))))]) e tm2 hp2):Rl 5 20 181 0 52 21 (qtM k) (quA b2 ev f2 mm n u2 wh) e tm2 hp2:=
 RunsL.next [] 300 [Re hq,Re hq1,.t false,.r (iV (((q+2:Nat):Int))),.t true,.r (iV (((q+2:Nat):Int))),.r (qac y),.r (qac m),Rf hl2,.r (iV (((q+2:Nat):Int))),.r (qac y),.r (qac x),Rf hl2,.k,.k,.gh [(21,3)],.r (qac y),.r (qac x),.w (qaB ((ev).set k y)),.w (qaB (((ev).set k y).set (q+2:Nat) x)),.gh [(21,3),(21,4)],.r (iV (y.i)),.r (iV (x.i)),.w (ziV ((wh).set y.i.toNat (k:Int))),.w (ziV (((wh).set y.i.toNat (k:Int)).set x.i.toNat ((q+2:Nat):Int)))]
  (qab (Ai hq (Ai hq1 (Ai hge (Ai hq2 (Ai h2 (Ai hq2 (Ai hin_y (Ai (qaQ he_y) (Ai hin_m (Ai (qaQ he_m) (Ai hl2 (Ai hq2 (Ai hin_y (Ai (qaQ he_y) (Ai hin_x (Ai (qaQ he_x) (Ai hl (Ai hin_y (Ai hin_x (Ai (qaQ he_y) (Ai (qaQ he_x) (Ai hin_x (Ai (Eq.refl (some (SV.ls 15 n))) (Ai (qeN (ev) k y hsa) (Ai (qbY (ev) k hsa) (Ai (Eq.refl (some (SV.ls 15 n))) (Ai hin_y (Ai (Eq.refl (some (SV.ls 15 n))) (Ai (qeN ((ev).set k y) (q+2:Nat) x hsb) (Ai (qbY ((ev).set k y) (q+2:Nat) hsb) (Ai (Eq.refl (some (SV.ls 15 n))) (Ai hin_x (Ai hin_y (Ai (qiR h2a) (Ai (qiR h2b) (Ai hwb (Ai (Eq.refl (some (SV.ls 15 n))) (Ai (Eq.refl (some (SV.ls 12 mm))) (Ai (qdg (wh) y.i.toNat (k:Int) hwbl) (Ai (qaV (wh) y.i.toNat hwbl) (Ai (Eq.refl (some (SV.ls 15 n))) (Ai (Eq.refl (some (SV.ls 12 mm))) (Ai hwa (Ai (Eq.refl (some (SV.ls 15 n))) (Ai (Eq.refl (some (SV.ls 12 mm))) (Ai (qdg ((wh).set y.i.toNat (k:Int)) x.i.toNat ((q+2:Nat):Int) hwal) (Ai (qaV ((wh).set y.i.toNat (k:Int)) x.i.toNat hwal) (Ai (Eq.refl (some (SV.ls 15 n))) (Ai (Eq.refl (some (SV.ls 12 mm))) tI))))))))))))))))))))))))))))))))))))))))))))))))) (by kernel_rfl)) r
theorem qep {wh u2 f2:List Int} {b2:List Bool} {ev:List Ev} {x y m:Ev} {k q n mm:Nat} (hq:iV (IntKind.i64.wrap (2*(k:Int)))=iV (q:Int)) (hq1:iV (IntKind.i64.wrap ((q:Int)+1))=iV (((q+1:Nat):Int))) (hge:decide (((q+1:Nat):Int)≥(n:Int))=false) (hq2:iV (IntKind.i64.wrap (((q+1:Nat):Int)+1))=iV (((q+2:Nat):Int))) (h2:decide (((q+2:Nat):Int)<(n:Int))=true) (hin_y:0≤((q+2:Nat):Int)∧((q+2:Nat):Int)<(n:Int)) (he_y:ev[(q+2:Nat)]?=some y) (hin_m:0≤((q+1:Nat):Int)∧((q+1:Nat):Int)<(n:Int)) (he_m:ev[(q+1:Nat)]?=some m) (hl2:Pure Tryz.prog 131 #[qac y,qac m] (.bool true)) (hin_x:0≤(k:Int)∧(k:Int)<(n:Int)) (he_x:ev[k]?=some x) (hl:Pure Tryz.prog 131 #[qac y,qac x] (.bool false)):Rl 5 20 181 0 52 21 (qtM k) (quA b2 ev f2 mm n u2 wh) (.ret) ([]) (qyj b2 ev f2 mm n u2 wh):=
 RunsL.stop [] 300 [Re hq,Re hq1,.t false,.r (iV (((q+2:Nat):Int))),.t true,.r (iV (((q+2:Nat):Int))),.r (qac y),.r (qac m),Rf hl2,.r (iV (((q+2:Nat):Int))),.r (qac y),.r (qac x),Rf hl,.k] (fun h=>by cases h)
  (qab (Ai hq (Ai hq1 (Ai hge (Ai hq2 (Ai h2 (Ai hq2 (Ai hin_y (Ai (qaQ he_y) (Ai hin_m (Ai (qaQ he_m) (Ai hl2 (Ai hq2 (Ai hin_y (Ai (qaQ he_y) (Ai hin_x (Ai (qaQ he_x) (Ai hl tI))))))))))))))))) (by kernel_rfl))
theorem qmY (g:List Ev) (k:Nat):some (SV.row 62 5 k ((qaB g).take (k*5)))=some (SV.row 62 5 k (qaB (g.take k))):=by rw[qfe]
abbrev qGO (b:List Bool) (ev:List Ev) (fr:List Int) (u:List Int) (wh:List Int):Prop:=Fn 54 5 [agA u b fr ev wh] [(0,0,zrI u),(1,0,zrB b),(2,0,zrI fr),(3,0,qar ev),(4,0,zrI wh)] (.ag [.ls 5 u.length,.ls 6 b.length,.ls 7 fr.length,.ls 8 ev.length,.ls 9 wh.length]) 5 [(5,0,zrI u),(6,0,zrB b),(7,0,zrI fr),(8,0,qar ev),(9,0,zrI wh)]
theorem qtO {u fr wh u2 f2:List Int} {b b2:List Bool} {ev:List Ev} {hi hw:Int} {k la:Nat} (htw:qGO b ev fr u wh) (hiw:0≤hi∧hi<(wh.length:Int)) (hwk:wh[hi.toNat]?=some (k:Int)) (hla:iV (IntKind.i64.wrap ((ev.length:Int)-1))=iV (la:Int)) (hne:(!((k:Int)==(la:Int)))=false) (hll:la≤ev.length) (hws:hi.toNat<(wh).length) (hg:Fn 180 3 [.ag [.ls 0 u.length,.ls 1 b.length,.ls 2 fr.length],.pv (qaK hi hw)] [(0,0,zrI u),(1,0,zrB b),(2,0,zrI fr)] (.ag [.ls 3 u2.length,.ls 4 b2.length,.ls 5 f2.length]) 3 [(3,0,zrI u2),(4,0,zrB b2),(5,0,zrI f2)]) :
 Fn 126 5 [agA u b fr ev wh,.pv (qaK hi hw)] [(0,0,zrI u),(1,0,zrB b),(2,0,zrI fr),(3,0,qar ev),(4,0,zrI wh)] (.ag [.ls 5 u2.length,.ls 6 b2.length,.ls 7 f2.length,.ls 8 la,.ls 9 wh.length]) 5 [(5,0,zrI u2),(6,0,zrB b2),(7,0,zrI f2),(8,0,.row 62 5 la (qaB (ev.take la))),(9,0,.row 3 1 wh.length (ziV (wh.set hi.toNat (-1))))]:=
 qaa 300 [(5,15),(6,16),(7,17),(8,14),(9,12)] [Cf htw [0,1,2,3,4],.r (iV (k:Int)),Re hla,.t false,.w [],.w (ziV ((wh).set hi.toNat (-1))),Cf hg [8,9,10],.t false]
  (Ai (Eq.refl (some (zrI u2))) (Ai (Eq.refl (some (zrB b2))) (Ai (Eq.refl (some (zrI f2))) (Ai (qmY ev la) (Ai (Eq.refl (some (SV.row 3 1 wh.length (ziV (wh.set hi.toNat (-1)))))) tI))))) (Co htw [0,1,2,3,4] 8 (Ai hiw (Ai (qdc hwk) (Ai hla (Ai hne (Ai (Int.natCast_nonneg la) (Ai hll (Ai hiw (Ai (qdg (wh) hi.toNat (-1) hws) (Ai (qaV (wh) hi.toNat hws) (Co hg [8,9,10] 15 (Ai hne tI)))))))))))) (by kernel_rfl)
theorem quW {u fr wh u2 f2 wh3 wh4:List Int} {b b2:List Bool} {ev ev3 ev4:List Ev} {x xl:Ev} {hi hw:Int} {k n mm p la:Nat} (htw:qGO b ev fr u wh) (hiw:0≤hi∧hi<(wh.length:Int)) (hwk:wh[hi.toNat]?=some (k:Int)) (hla:iV (IntKind.i64.wrap ((ev.length:Int)-1))=iV (la:Int)) (hne:(!((k:Int)==(la:Int)))=true) (hin_x:0≤(k:Int)∧(k:Int)<(ev.length:Int)) (he_x:ev[k]?=some x) (hin_xl:0≤(la:Int)∧(la:Int)<(ev.length:Int)) (he_xl:ev[la]?=some xl) (hsa:k<(ev).length) (hsb:la<((ev).set k xl).length) (h2a:(((ev).set k xl).set la x)[k]?=some xl) (h2b:(((ev).set k xl).set la x)[la]?=some x) (hwb:0≤xl.i∧xl.i<(wh.length:Int)) (hwbl:xl.i.toNat<(wh).length) (hwa:0≤x.i∧x.i<(wh.length:Int)) (hwal:x.i.toNat<((wh).set xl.i.toNat (k:Int)).length) (hll:la≤ev.length) (hws:hi.toNat<(((wh).set xl.i.toNat (k:Int)).set x.i.toNat (la:Int)).length) (hg:Fn 180 3 [.ag [.ls 0 u.length,.ls 1 b.length,.ls 2 fr.length],.pv (qaK hi hw)] [(0,0,zrI u),(1,0,zrB b),(2,0,zrI fr)] (.ag [.ls 3 u2.length,.ls 4 b2.length,.ls 5 f2.length]) 3 [(3,0,zrI u2),(4,0,zrB b2),(5,0,zrI f2)]) (r0:Rl 5 19 178 0 32 20 (qDs k) ([(19,0,.ls 16 u2.length),(19,1,.ls 17 b2.length),(19,2,.ls 18 f2.length),(19,3,.ls 15 la),(19,4,.ls 12 wh.length),(13,0,.ls 16 u2.length),(13,1,.ls 17 b2.length),(13,2,.ls 18 f2.length),(13,3,.ls 15 la),(13,4,.ls 12 wh.length),(7,0,.pv (.slice none 0 0)),(7,1,.pv (.slice none 0 0)),(7,2,.pv (.slice none 0 0)),(7,3,.pv (.slice none 0 0)),(7,4,.pv (.slice none 0 0)),(16,0,zrI u2),(17,0,zrB b2),(18,0,zrI f2),(15,0,.row 62 5 la (qaB ((((ev).set k xl).set la x).take la))),(12,0,.row 3 1 wh.length (ziV ((((wh).set xl.i.toNat (k:Int)).set x.i.toNat (la:Int)).set hi.toNat (-1))))]) (.exit 0) ([(1,.pv (iV (p:Int)))]) ([(13,0,.ls 16 u2.length),(13,1,.ls 17 b2.length),(13,2,.ls 18 f2.length),(13,3,.ls 15 la),(13,4,.ls 12 wh.length),(7,0,.pv (.slice none 0 0)),(7,1,.pv (.slice none 0 0)),(7,2,.pv (.slice none 0 0)),(7,3,.pv (.slice none 0 0)),(7,4,.pv (.slice none 0 0)),(16,0,zrI u2),(17,0,zrB b2),(18,0,zrI f2),(15,0,.row 62 5 la (qaB (ev3))),(12,0,.row 3 1 wh.length (ziV (wh3)))])) (r1:Rl 5 20 181 0 52 21 ([(1,.pv (iV (p:Int))),(2,.pp 20 0)]) ([(20,0,.ls 16 u2.length),(20,1,.ls 17 b2.length),(20,2,.ls 18 f2.length),(20,3,.ls 15 la),(20,4,.ls 12 wh.length),(13,0,.ls 16 u2.length),(13,1,.ls 17 b2.length),(13,2,.ls 18 f2.length),(13,3,.ls 15 la),(13,4,.ls 12 wh.length),(7,0,.pv (.slice none 0 0)),(7,1,.pv (.slice none 0 0)),(7,2,.pv (.slice none 0 0)),(7,3,.pv (.slice none 0 0)),(7,4,.pv (.slice none 0 0)),(16,0,zrI u2),(17,0,zrB b2),(18,0,zrI f2),(15,0,.row 62 5 la (qaB (ev3))),(12,0,.row 3 1 wh.length (ziV (wh3)))]) (.ret) ([]) ([(13,0,.ls 16 u2.length),(13,1,.ls 17 b2.length),(13,2,.ls 18 f2.length),(13,3,.ls 15 la),(13,4,.ls 12 wh.length),(7,0,.pv (.slice none 0 0)),(7,1,.pv (.slice none 0 0)),(7,2,.pv (.slice none 0 0)),(7,3,.pv (.slice none 0 0)),(7,4,.pv (.slice none 0 0)),(16,0,zrI u2),(17,0,zrB b2),(18,0,zrI f2),(15,0,.row 62 5 la (qaB (ev4))),(12,0,.row 3 1 wh.length (ziV (wh4)))])) :
 Fn 126 5 [agA u b fr ev wh,.pv (qaK hi hw)] [(0,0,zrI u),(1,0,zrB b),(2,0,zrI fr),(3,0,qar ev),(4,0,zrI wh)] (.ag [.ls 5 u2.length,.ls 6 b2.length,.ls 7 f2.length,.ls 8 la,.ls 9 wh.length]) 5 [(5,0,zrI u2),(6,0,zrB b2),(7,0,zrI f2),(8,0,.row 62 5 la (qaB (ev4))),(9,0,.row 3 1 wh.length (ziV (wh4)))]:=
 qaa 400 [(5,16),(6,17),(7,18),(8,15),(9,12)] [Cf htw [0,1,2,3,4],.r (iV (k:Int)),Re hla,.t true,.k,.gh [(14,3)],.r (qac xl),.r (qac x),.w (qaB ((ev).set k xl)),.w (qaB (((ev).set k xl).set la x)),.gh [(14,3),(14,4)],.r (iV (xl.i)),.r (iV (x.i)),.w (ziV ((wh).set xl.i.toNat (k:Int))),.w (ziV (((wh).set xl.i.toNat (k:Int)).set x.i.toNat (la:Int))),.w [],.w (ziV ((((wh).set xl.i.toNat (k:Int)).set x.i.toNat (la:Int)).set hi.toNat (-1))),Cf hg [8,9,10],.t true,.gh [(13,0),(13,1),(13,2),(13,3),(13,4)],.k,Lf r0,.k,Lf r1]
  (qaF (qaP [(5,16),(6,17),(7,18),(8,15),(9,12)]) [(5,0,zrI u2),(6,0,zrB b2),(7,0,zrI f2),(8,0,.row 62 5 la (qaB (ev4))),(9,0,.row 3 1 wh.length (ziV (wh4)))]) (Co htw [0,1,2,3,4] 8 (Ai hiw (Ai (qdc hwk) (Ai hla (Ai hne (Ai hin_xl (Ai hin_x (Ai (qaQ he_xl) (Ai (qaQ he_x) (Ai hin_x (Ai (Eq.refl (some (SV.ls 11 ev.length))) (Ai (qeN (ev) k xl hsa) (Ai (qbY (ev) k hsa) (Ai (Eq.refl (some (SV.ls 11 ev.length))) (Ai hin_xl (Ai (Eq.refl (some (SV.ls 11 ev.length))) (Ai (qeN ((ev).set k xl) la x hsb) (Ai (qbY ((ev).set k xl) la hsb) (Ai (Eq.refl (some (SV.ls 11 ev.length))) (Ai hin_x (Ai hin_xl (Ai (qiR h2a) (Ai (qiR h2b) (Ai hwb (Ai (Eq.refl (some (SV.ls 11 ev.length))) (Ai (Eq.refl (some (SV.ls 12 wh.length))) (Ai (qdg (wh) xl.i.toNat (k:Int) hwbl) (Ai (qaV (wh) xl.i.toNat hwbl) (Ai (Eq.refl (some (SV.ls 11 ev.length))) (Ai (Eq.refl (some (SV.ls 12 wh.length))) (Ai hwa (Ai (Eq.refl (some (SV.ls 11 ev.length))) (Ai (Eq.refl (some (SV.ls 12 wh.length))) (Ai (qdg ((wh).set xl.i.toNat (k:Int)) x.i.toNat (la:Int) hwal) (Ai (qaV ((wh).set xl.i.toNat (k:Int)) x.i.toNat hwal) (Ai (Eq.refl (some (SV.ls 11 ev.length))) (Ai (Eq.refl (some (SV.ls 12 wh.length))) (Ai (Int.natCast_nonneg la) (Ai hll (Ai hiw (Ai (qdg (((wh).set xl.i.toNat (k:Int)).set x.i.toNat (la:Int)) hi.toNat (-1) hws) (Ai (qaV (((wh).set xl.i.toNat (k:Int)).set x.i.toNat (la:Int)) hi.toNat hws) (Co hg [8,9,10] 16 (Ai hne (Ai (Eq.refl (some (SV.ls 16 u2.length))) (Ai (Eq.refl (some (SV.ls 17 b2.length))) (Ai (Eq.refl (some (SV.ls 18 f2.length))) (Ai (Eq.refl (some (SV.ls 15 la))) (Ai (Eq.refl (some (SV.ls 12 wh.length))) (Ai (Lt r0 []) (Ai (Ai (Eq.refl (some (SV.ls 16 u2.length))) (Ai (Eq.refl (some (SV.ls 17 b2.length))) (Ai (Eq.refl (some (SV.ls 18 f2.length))) (Ai (Eq.refl (some (SV.ls 15 la))) (Ai (Eq.refl (some (SV.ls 12 wh.length))) (Ai (Eq.refl (some (SV.ls 16 u2.length))) (Ai (Eq.refl (some (SV.ls 17 b2.length))) (Ai (Eq.refl (some (SV.ls 18 f2.length))) (Ai (Eq.refl (some (SV.ls 15 la))) (Ai (Eq.refl (some (SV.ls 12 wh.length))) (Ai (Eq.refl (some (SV.pv (.slice none 0 0)))) (Ai (Eq.refl (some (SV.pv (.slice none 0 0)))) (Ai (Eq.refl (some (SV.pv (.slice none 0 0)))) (Ai (Eq.refl (some (SV.pv (.slice none 0 0)))) (Ai (Eq.refl (some (SV.pv (.slice none 0 0)))) (Ai (Eq.refl (some (zrI u2))) (Ai (Eq.refl (some (zrB b2))) (Ai (Eq.refl (some (zrI f2))) (Ai (qmY (((ev).set k xl).set la x) la) (Ai (Eq.refl (some (SV.row 3 1 wh.length (ziV ((((wh).set xl.i.toNat (k:Int)).set x.i.toNat (la:Int)).set hi.toNat (-1)))))) tI)))))))))))))))))))) (Ai r0 (Ai (Eq.refl (some (SV.ls 16 u2.length))) (Ai (Eq.refl (some (SV.ls 17 b2.length))) (Ai (Eq.refl (some (SV.ls 18 f2.length))) (Ai (Eq.refl (some (SV.ls 15 la))) (Ai (Eq.refl (some (SV.ls 12 wh.length))) (Lo r1 [] (Ai (Eq.refl (some (SV.ls 16 u2.length))) (Ai (Eq.refl (some (SV.ls 17 b2.length))) (Ai (Eq.refl (some (SV.ls 18 f2.length))) (Ai (Eq.refl (some (SV.ls 15 la))) (Ai (Eq.refl (some (SV.ls 12 wh.length))) tI))))))))))))))))))))))))))))))))))))))))))))))))))))))))))))))) (by kernel_rfl)
end Go.Proofs.YtkjaanhddkkodaaGreat

namespace Go.Proofs.YtkjaanhddkkodaaGreat
set_option maxRecDepth 100000
open Go.RowKit
section
theorem qpm {f:FuncId} {args:List SV} {n0 n1 n2 n3:Nat} {r0 r1 r2 r3:SV}
 (h:Fn f 0 args [] (.ag [.ls 0 n0,.ls 1 n1,.ls 2 n2,.pv (.slice none 0 0),.ls 3 n3]) 4 [(0,0,r0),(1,0,r1),(2,0,r2),(3,0,r3)]) (hr:r0.isRow=true∧r1.isRow=true∧r2.isRow=true∧r3.isRow=true) :
 Fn f 0 args [] (.ag [.ls 0 n0,.ls 1 n1,.ls 2 n2,.ls 4 0,.ls 3 n3]) 5 [(0,0,r0),(1,0,r1),(2,0,r2),(3,0,r3),(4,0,qar [])]:=by
 intro w β us hH hd hi
 refine (h w β us hH hd hi).mono fun e w' ⟨v,β',he,hle,hx,hh,hd'⟩=>?_
 obtain⟨ws,hws,h0⟩:=hx
 match ws,hws with
 | [a0,a1,a2,a3,a4],⟨k0,k1,k2,k3,k4,_⟩=>
 have k3':a3=.slice none 0 0:=k3
 subst k3' h0
 have hd4:=hd' 4 (by omega)
 have hle4:β'.le (β'.setG 4 (.slice none 0 0)):=Bl.le_setG hd4.1 hd4.2
 refine⟨_,β'.setG 4 (.slice none 0 0),he,Bl.le_trans hle hle4,⟨[a0,a1,a2,.slice none 0 0,a4],⟨S0.is_mono hle4 k0,S0.is_mono hle4 k1,S0.is_mono hle4 k2,⟨Bl.setG_same _ _ _,none,0,rfl⟩,S0.is_mono hle4 k4,tI⟩,rfl⟩,?_,qbH hd'⟩
 have ho:w'.ownsRow w.heap.size 62 5 (.slice none 0 0) 0 []:=⟨rfl,Or.inl ⟨rfl,rfl⟩⟩
 have look:∀ c o s,qah [(0,0,r0),(1,0,r1),(2,0,r2),(3,0,r3),(4,0,qar [])] c o=some s→(c=4∧o=0∧s=qar [])∨(c≠4∧qah [(0,0,r0),(1,0,r1),(2,0,r2),(3,0,r3)] c o=some s):=by
  intro c o s hs
  by_cases hc:c=4
  ·subst hc
   simp only[qaj,if_neg (show ¬ ((0:Nat)=4∧(0:Nat)=o) by omega),if_neg (show ¬ ((1:Nat)=4∧(0:Nat)=o) by omega),if_neg (show ¬ ((2:Nat)=4∧(0:Nat)=o) by omega),if_neg (show ¬ ((3:Nat)=4∧(0:Nat)=o) by omega)] at hs
   split at hs
   ·rename_i e4
    exact Or.inl ⟨rfl,e4.2.symm,(Option.some.inj hs).symm⟩
   ·cases hs
  ·refine Or.inr ⟨hc,?_⟩
   have e4:¬ ((4:Nat)=c∧(0:Nat)=o):=fun e=>hc e.1.symm
   simp only[qaj] at hs ⊢
   rw[if_neg e4] at hs
   exact hs
 refine⟨hh.gr,hh.live,hh.inj,hh.new,fun c r hc=>?_,fun c o s hs hsr=>?_,fun c o e es n xs hs=>?_,fun c o e es n xs c' o' e' es' n' xs' u v hs hs' h1 h2 hne gu gv k hu hv=>?_,fun c o xs hs=>?_⟩
 ·have hc':β' c=some r:=hc
  have:c≠4:=fun e=>by subst e;rw[hd4.1] at hc';cases hc'
  show (if c=4 then _ else β'.g c)=none
  rw[if_neg this]
  exact hh.sep c r hc'
 ·rcases look _ _ _ hs with ⟨_,_,rfl⟩ | ⟨_,hs⟩
  ·cases hsr
  ·obtain⟨r,uu,g1,g2,g3⟩:=hh.cells c o s hs hsr
   exact⟨r,uu,g1,SV.is_mono hle4 g2,g3⟩
 ·rcases look _ _ _ hs with ⟨rfl,_,e1⟩ | ⟨hc,hs⟩
  ·cases e1
   refine⟨_,Bl.setG_same _ _ _,qd4 ho,(fun v hv=>by cases hv),fun h=>by omega,fun _=>ho,fun _ c r hc hu=>by cases hu⟩
  ·obtain⟨uu,g1,g2⟩:=hh.rows c o e es n xs hs
   exact⟨uu,hle4.g g1,g2.rd,g2.one,g2.low,g2.own,fun h c' r hc' hu=>g2.apart h c' r hc' hu⟩
 ·rcases look _ _ _ hs with ⟨rfl,_,e1⟩ | ⟨hc,hs⟩
  ·have gu':=gu
   rw[Bl.setG_same] at gu'
   cases gu';cases hu
  ·rcases look _ _ _ hs' with ⟨rfl,_,e1⟩ | ⟨hc2,hs2⟩
   ·have gv':=gv
    rw[Bl.setG_same] at gv'
    cases gv';cases hv
   ·have e1:β'.g c=some u:=by
     have g':(if c=4 then some (Value.slice none 0 0) else β'.g c)=some u:=gu
     rwa [if_neg hc] at g'
    have e2:β'.g c'=some v:=by
     have g':(if c'=4 then some (Value.slice none 0 0) else β'.g c')=some v:=gv
     rwa [if_neg hc2] at g'
    exact hh.rinj c o e es n xs c' o' e' es' n' xs' u v hs hs2 h1 h2 hne e1 e2 k hu hv
 ·rcases look _ _ _ hs with ⟨_,_,e1⟩ | ⟨_,hs⟩
  ·cases e1
  ·exact hh.maps c o xs hs
end
section
variable {u0 fr0 wh0:List Int} {b0:List Bool}
end
end Go.Proofs.YtkjaanhddkkodaaGreat

namespace Go.Proofs.YtkjaanhddkkodaaGreat
set_option maxRecDepth 100000
open Go.RowKit
theorem qkx {i:Nat} (h:1≤i) (hk:i≤1000000):iV (IntKind.i64.wrap ((i:Int)-1))=iV ((i-1:Nat):Int):=by
 rw[show (i:Int)-1=((i-1:Nat):Int) by omega];exact qa4 (by omega) (by omega)
theorem qkd {i:Nat} (hk:i≤1000000):iV (IntKind.i64.wrap (Int.tdiv ((i-1:Nat):Int) 2))=iV (((i-1)/2:Nat):Int):=by
 have e:Int.tdiv ((i-1:Nat):Int) 2=(((i-1)/2:Nat):Int):=by rw[Int.tdiv_eq_ediv_of_nonneg (by omega)];omega
 rw[e]
 exact qa4 (by omega) (by omega)
theorem qjH {i:Nat} (h:i≤1000000):iV (IntKind.i64.wrap (2*(i:Int)))=iV ((2*i:Nat):Int):=by rw[show 2*(i:Int)=((2*i:Nat):Int) by omega];exact qa4 (by omega) (by omega)
theorem qiD {i:Nat} (h:i≤1000000):iV (IntKind.i64.wrap (((2*i:Nat):Int)+1))=iV ((2*i+1:Nat):Int):=by rw[show ((2*i:Nat):Int)+1=((2*i+1:Nat):Int) by omega];exact qa4 (by omega) (by omega)
theorem qlk {i:Nat} (h:i≤1000000):iV (IntKind.i64.wrap (((2*i+1:Nat):Int)+1))=iV ((2*i+2:Nat):Int):=by rw[show ((2*i+1:Nat):Int)+1=((2*i+2:Nat):Int) by omega];exact qa4 (by omega) (by omega)
theorem qx5 {ev:List Ev} {n i j:Nat} {x y:Ev} (l:ev.length=n) (hi:i<n) (hj:j<n) (h:i≠j):((ev.set i y).set j x)[i]?=some y:=by
 rw[List.getElem?_set,if_neg (fun e=>h e.symm),List.getElem?_set,if_pos rfl,if_pos (by omega)]
theorem qyd {ev:List Ev} {n i j:Nat} {x y:Ev} (l:ev.length=n) (hi:i<n) (hj:j<n) (h:i≠j):((ev.set i y).set j x)[j]?=some x:=by
 rw[List.getElem?_set,if_pos rfl,if_pos (by rw[List.length_set];omega)]
theorem qkQ {ev:List Ev} {i:Nat} {x y:Ev} (ok:∀ x∈ev,EvOk x) (hl:qax ev i≠i) (hx:ev[i]?=some x) (hy:ev[qax ev i]?=some y) :
 ltE y x=true∧((qax ev i=2*i+1∧∀ b,ev[2*i+2]?=some b→ltE b y=false)∨(qax ev i=2*i+2∧∃ m,ev[2*i+1]?=some m∧ltE y m=true)):=by
 have ox:=ok x (List.mem_of_getElem? hx)
 have oy:=ok y (List.mem_of_getElem? hy)
 have sp:=fun c hc z hz=>qc8 ok (i:=i) (c:=c) hc z y hz hy
 have hA:(qbn ev i=i∧∀ m,ev[2*i+1]?=some m→ltE m x=false)∨(qbn ev i=2*i+1∧∃ m,ev[2*i+1]?=some m∧ltE m x=true):=by
  unfold qbn
  rw[hx]
  cases hm:ev[2*i+1]? with
  | none=>exact .inl ⟨rfl,fun m h=>by cases h⟩
  | some m=>
   cases e:ltE m x
   ·exact .inl ⟨by simp[e],fun m' h=>by cases h;exact e⟩
   ·exact .inr ⟨by simp[e],m,rfl,e⟩
 have hM:(qax ev i=qbn ev i)∨(qax ev i=2*i+2∧∃ b w,ev[2*i+2]?=some b∧ev[qbn ev i]?=some w∧ltE b w=true):=by
  unfold qax
  cases hb:ev[2*i+2]? with
  | none=>exact .inl rfl
  | some b=>
   cases hw:ev[qbn ev i]? with
   | none=>exact .inl rfl
   | some w=>
    cases e:ltE b w
    ·exact .inl (by simp[e])
    ·exact .inr ⟨by simp[e],b,w,rfl,rfl,e⟩
 rcases hM with h | ⟨h,b,w,hb,hw,e⟩
 ·rcases hA with ⟨h1,h2⟩ | ⟨h1,m,h2,h3⟩
  ·exact (hl (h.trans h1)).elim
  ·rw[h,h1,h2] at hy
   cases hy
   exact⟨h3,.inl ⟨h.trans h1,fun b hb=>sp _ (.inr (.inr rfl)) b hb⟩⟩
 ·rw[h,hb] at hy
  cases hy
  rcases hA with ⟨h1,h2⟩ | ⟨h1,m,h2,h3⟩
  ·rw[h1,hx] at hw
   cases hw
   refine⟨e,.inr ⟨h,?_⟩⟩
   have h4:2*i+1<ev.length:=by have:=(List.getElem?_eq_some_iff.1 hb).1;omega
   have hm:ev[2*i+1]?=some (ev[2*i+1]'h4):=List.getElem?_eq_getElem h4
   generalize ev[2*i+1]'h4=m at hm
   refine⟨m,hm,?_⟩
   cases e2:ltE y m with
   | true=>rfl
   | false=>
    have:=qbR oy (ok m (List.mem_of_getElem? hm)) ox e2 (h2 m hm)
    rw[e] at this
    cases this
  ·rw[h1,h2] at hw
   cases hw
   exact⟨qy0 oy (ok _ (List.mem_of_getElem? h2)) ox e h3,.inr ⟨h,_,h2,e⟩⟩
theorem qAw {u2:List Int} {b2:List Bool} {f2:List Int} {hi:Int} {hw:Int} {n mm:Nat} (hn:n≤1000000) (d ii:Nat) (ev:List Ev) (wh:List Int) (a:ii≤d) (c:ii<n) (I:AInv n mm ev wh):Rl 5 22 178 0 32 23 ([(1,.pv (iV (ii:Int))),(2,.pp 22 0)]) ([(22,0,.ls 15 u2.length),(22,1,.ls 16 b2.length),(22,2,.ls 17 f2.length),(22,3,.ls 21 n),(22,4,.ls 13 mm),(14,0,.ls 15 u2.length),(14,1,.ls 16 b2.length),(14,2,.ls 17 f2.length),(14,3,.ls 21 n),(14,4,.ls 13 mm),(7,0,.pv (.slice none 0 0)),(7,1,.pv (.slice none 0 0)),(7,2,.pv (.slice none 0 0)),(7,3,.pv (.slice none 0 0)),(7,4,.pv (.slice none 0 0)),(8,0,.pv (iV 0)),(8,1,.pv (iV 0)),(19,0,.pv (iV hi)),(19,1,.pv (iV hw)),(15,0,zrI u2),(16,0,zrB b2),(17,0,zrI f2),(21,0,.row 62 5 n (qaB (ev))),(13,0,.row 3 1 mm (ziV (wh)))]) (.exit 0) [(1,.pv (iV ((upM d ev wh ii).2.2:Int)))] ([(14,0,.ls 15 u2.length),(14,1,.ls 16 b2.length),(14,2,.ls 17 f2.length),(14,3,.ls 21 n),(14,4,.ls 13 mm),(7,0,.pv (.slice none 0 0)),(7,1,.pv (.slice none 0 0)),(7,2,.pv (.slice none 0 0)),(7,3,.pv (.slice none 0 0)),(7,4,.pv (.slice none 0 0)),(8,0,.pv (iV 0)),(8,1,.pv (iV 0)),(19,0,.pv (iV hi)),(19,1,.pv (iV hw)),(15,0,zrI u2),(16,0,zrB b2),(17,0,zrI f2),(21,0,.row 62 5 n (qaB ((upM d ev wh ii).1))),(13,0,.row 3 1 mm (ziV ((upM d ev wh ii).2.1)))]):=by
 refine (qeB (n:=n) (mm:=mm) (Q:=fun (ii:Nat) ev wh (ii':Nat) ev' wh'=>Rl 5 22 178 0 32 23 ([(1,.pv (iV (ii:Int))),(2,.pp 22 0)]) ([(22,0,.ls 15 u2.length),(22,1,.ls 16 b2.length),(22,2,.ls 17 f2.length),(22,3,.ls 21 n),(22,4,.ls 13 mm),(14,0,.ls 15 u2.length),(14,1,.ls 16 b2.length),(14,2,.ls 17 f2.length),(14,3,.ls 21 n),(14,4,.ls 13 mm),(7,0,.pv (.slice none 0 0)),(7,1,.pv (.slice none 0 0)),(7,2,.pv (.slice none 0 0)),(7,3,.pv (.slice none 0 0)),(7,4,.pv (.slice none 0 0)),(8,0,.pv (iV 0)),(8,1,.pv (iV 0)),(19,0,.pv (iV hi)),(19,1,.pv (iV hw)),(15,0,zrI u2),(16,0,zrB b2),(17,0,zrI f2),(21,0,.row 62 5 n (qaB (ev))),(13,0,.row 3 1 mm (ziV (wh)))]) (.exit 0) [(1,.pv (iV (ii':Int)))] ([(14,0,.ls 15 u2.length),(14,1,.ls 16 b2.length),(14,2,.ls 17 f2.length),(14,3,.ls 21 n),(14,4,.ls 13 mm),(7,0,.pv (.slice none 0 0)),(7,1,.pv (.slice none 0 0)),(7,2,.pv (.slice none 0 0)),(7,3,.pv (.slice none 0 0)),(7,4,.pv (.slice none 0 0)),(8,0,.pv (iV 0)),(8,1,.pv (iV 0)),(19,0,.pv (iV hi)),(19,1,.pv (iV hw)),(15,0,zrI u2),(16,0,zrB b2),(17,0,zrI f2),(21,0,.row 62 5 n (qaB (ev'))),(13,0,.row 3 1 mm (ziV (wh')))])) ?_ ?_ ?_ d ii ev wh a c I).1
 ·intro i ev wh x y i' ev' wh' I h0 hi hx hy hl r
  have ox:=I.ok x (List.mem_of_getElem? hx);have oy:=I.ok y (List.mem_of_getElem? hy);have ix:=I.ix x (List.mem_of_getElem? hx);have iy:=I.ix y (List.mem_of_getElem? hy)
  have l1:=I.len;have l2:=I.wl;have hc:=qa1 ox.i oy.i;rw[hl] at hc
  exact qlm (q:=i-1) (j:=(i-1)/2) (x:=x) (y:=y) (n2:=by decide) (hm1:=qkx (by omega) (by omega)) (hm2:=qkd (by omega)) (hin_x:=⟨by omega,by omega⟩) (he_x:=hx) (hin_y:=⟨by omega,by omega⟩) (he_y:=hy) (h0:=decide_eq_true (by omega)) (hl:=hc) (hsa:=by omega) (hsb:=by rw[List.length_set];omega) (h2a:=qx5 l1 (by omega) (by omega) (by omega)) (h2b:=qyd l1 (by omega) (by omega) (by omega)) (hwb:=iy) (hwbl:=by omega) (hwa:=ix) (hwal:=by rw[List.length_set];omega) (r:=r)
 ·intro i ev wh x y I h0 hi hx hy hl
  have ox:=I.ok x (List.mem_of_getElem? hx);have oy:=I.ok y (List.mem_of_getElem? hy)
  have hc:=qa1 ox.i oy.i;rw[hl] at hc
  exact qlP (q:=i-1) (j:=(i-1)/2) (x:=x) (y:=y) (n2:=by decide) (hm1:=qkx (by omega) (by omega)) (hm2:=qkd (by omega)) (hin_x:=⟨by omega,by omega⟩) (he_x:=hx) (hin_y:=⟨by omega,by omega⟩) (he_y:=hy) (h0:=decide_eq_true (by omega)) (hl:=hc)
 ·intro ev wh I
  exact qlL (k:=0) (decide_eq_false (by omega))
theorem qvX {u2:List Int} {b2:List Bool} {f2:List Int} {n mm:Nat} (hn:n≤1000000) (d ii:Nat) (ev:List Ev) (wh:List Int) (a:ii≤d) (c:ii<n) (I:AInv n mm ev wh):Rl 5 19 178 0 32 20 ([(1,.pv (iV (ii:Int))),(2,.pp 19 0)]) ([(19,0,.ls 16 u2.length),(19,1,.ls 17 b2.length),(19,2,.ls 18 f2.length),(19,3,.ls 15 n),(19,4,.ls 12 mm),(13,0,.ls 16 u2.length),(13,1,.ls 17 b2.length),(13,2,.ls 18 f2.length),(13,3,.ls 15 n),(13,4,.ls 12 mm),(7,0,.pv (.slice none 0 0)),(7,1,.pv (.slice none 0 0)),(7,2,.pv (.slice none 0 0)),(7,3,.pv (.slice none 0 0)),(7,4,.pv (.slice none 0 0)),(16,0,zrI u2),(17,0,zrB b2),(18,0,zrI f2),(15,0,.row 62 5 n (qaB (ev))),(12,0,.row 3 1 mm (ziV (wh)))]) (.exit 0) [(1,.pv (iV ((upM d ev wh ii).2.2:Int)))] ([(13,0,.ls 16 u2.length),(13,1,.ls 17 b2.length),(13,2,.ls 18 f2.length),(13,3,.ls 15 n),(13,4,.ls 12 mm),(7,0,.pv (.slice none 0 0)),(7,1,.pv (.slice none 0 0)),(7,2,.pv (.slice none 0 0)),(7,3,.pv (.slice none 0 0)),(7,4,.pv (.slice none 0 0)),(16,0,zrI u2),(17,0,zrB b2),(18,0,zrI f2),(15,0,.row 62 5 n (qaB ((upM d ev wh ii).1))),(12,0,.row 3 1 mm (ziV ((upM d ev wh ii).2.1)))]):=by
 refine (qeB (n:=n) (mm:=mm) (Q:=fun (ii:Nat) ev wh (ii':Nat) ev' wh'=>Rl 5 19 178 0 32 20 ([(1,.pv (iV (ii:Int))),(2,.pp 19 0)]) ([(19,0,.ls 16 u2.length),(19,1,.ls 17 b2.length),(19,2,.ls 18 f2.length),(19,3,.ls 15 n),(19,4,.ls 12 mm),(13,0,.ls 16 u2.length),(13,1,.ls 17 b2.length),(13,2,.ls 18 f2.length),(13,3,.ls 15 n),(13,4,.ls 12 mm),(7,0,.pv (.slice none 0 0)),(7,1,.pv (.slice none 0 0)),(7,2,.pv (.slice none 0 0)),(7,3,.pv (.slice none 0 0)),(7,4,.pv (.slice none 0 0)),(16,0,zrI u2),(17,0,zrB b2),(18,0,zrI f2),(15,0,.row 62 5 n (qaB (ev))),(12,0,.row 3 1 mm (ziV (wh)))]) (.exit 0) [(1,.pv (iV (ii':Int)))] ([(13,0,.ls 16 u2.length),(13,1,.ls 17 b2.length),(13,2,.ls 18 f2.length),(13,3,.ls 15 n),(13,4,.ls 12 mm),(7,0,.pv (.slice none 0 0)),(7,1,.pv (.slice none 0 0)),(7,2,.pv (.slice none 0 0)),(7,3,.pv (.slice none 0 0)),(7,4,.pv (.slice none 0 0)),(16,0,zrI u2),(17,0,zrB b2),(18,0,zrI f2),(15,0,.row 62 5 n (qaB (ev'))),(12,0,.row 3 1 mm (ziV (wh')))])) ?_ ?_ ?_ d ii ev wh a c I).1
 ·intro i ev wh x y i' ev' wh' I h0 hi hx hy hl r
  have ox:=I.ok x (List.mem_of_getElem? hx);have oy:=I.ok y (List.mem_of_getElem? hy);have ix:=I.ix x (List.mem_of_getElem? hx);have iy:=I.ix y (List.mem_of_getElem? hy)
  have l1:=I.len;have l2:=I.wl;have hc:=qa1 ox.i oy.i;rw[hl] at hc
  exact qiC (q:=i-1) (j:=(i-1)/2) (x:=x) (y:=y) (n2:=by decide) (hm1:=qkx (by omega) (by omega)) (hm2:=qkd (by omega)) (hin_x:=⟨by omega,by omega⟩) (he_x:=hx) (hin_y:=⟨by omega,by omega⟩) (he_y:=hy) (h0:=decide_eq_true (by omega)) (hl:=hc) (hsa:=by omega) (hsb:=by rw[List.length_set];omega) (h2a:=qx5 l1 (by omega) (by omega) (by omega)) (h2b:=qyd l1 (by omega) (by omega) (by omega)) (hwb:=iy) (hwbl:=by omega) (hwa:=ix) (hwal:=by rw[List.length_set];omega) (r:=r)
 ·intro i ev wh x y I h0 hi hx hy hl
  have ox:=I.ok x (List.mem_of_getElem? hx);have oy:=I.ok y (List.mem_of_getElem? hy)
  have hc:=qa1 ox.i oy.i;rw[hl] at hc
  exact qiJ (q:=i-1) (j:=(i-1)/2) (x:=x) (y:=y) (n2:=by decide) (hm1:=qkx (by omega) (by omega)) (hm2:=qkd (by omega)) (hin_x:=⟨by omega,by omega⟩) (he_x:=hx) (hin_y:=⟨by omega,by omega⟩) (he_y:=hy) (h0:=decide_eq_true (by omega)) (hl:=hc)
 ·intro ev wh I
  exact qjh (k:=0) (decide_eq_false (by omega))
theorem qwH {u2:List Int} {b2:List Bool} {f2:List Int} {n mm:Nat} (hn:n≤1000000) (d ii:Nat) (ev:List Ev) (wh:List Int) (a:n≤ii+d) (c:ii<n) (I:AInv n mm ev wh):Rl 5 20 181 0 52 21 ([(1,.pv (iV (ii:Int))),(2,.pp 20 0)]) ([(20,0,.ls 16 u2.length),(20,1,.ls 17 b2.length),(20,2,.ls 18 f2.length),(20,3,.ls 15 n),(20,4,.ls 12 mm),(13,0,.ls 16 u2.length),(13,1,.ls 17 b2.length),(13,2,.ls 18 f2.length),(13,3,.ls 15 n),(13,4,.ls 12 mm),(7,0,.pv (.slice none 0 0)),(7,1,.pv (.slice none 0 0)),(7,2,.pv (.slice none 0 0)),(7,3,.pv (.slice none 0 0)),(7,4,.pv (.slice none 0 0)),(16,0,zrI u2),(17,0,zrB b2),(18,0,zrI f2),(15,0,.row 62 5 n (qaB (ev))),(12,0,.row 3 1 mm (ziV (wh)))]) .ret [] ([(13,0,.ls 16 u2.length),(13,1,.ls 17 b2.length),(13,2,.ls 18 f2.length),(13,3,.ls 15 n),(13,4,.ls 12 mm),(7,0,.pv (.slice none 0 0)),(7,1,.pv (.slice none 0 0)),(7,2,.pv (.slice none 0 0)),(7,3,.pv (.slice none 0 0)),(7,4,.pv (.slice none 0 0)),(16,0,zrI u2),(17,0,zrB b2),(18,0,zrI f2),(15,0,.row 62 5 n (qaB ((dnM d ev wh ii).1))),(12,0,.row 3 1 mm (ziV ((dnM d ev wh ii).2)))]):=by
 refine (qgd (n:=n) (mm:=mm) (Q:=fun (ii:Nat) ev wh ev' wh'=>Rl 5 20 181 0 52 21 ([(1,.pv (iV (ii:Int))),(2,.pp 20 0)]) ([(20,0,.ls 16 u2.length),(20,1,.ls 17 b2.length),(20,2,.ls 18 f2.length),(20,3,.ls 15 n),(20,4,.ls 12 mm),(13,0,.ls 16 u2.length),(13,1,.ls 17 b2.length),(13,2,.ls 18 f2.length),(13,3,.ls 15 n),(13,4,.ls 12 mm),(7,0,.pv (.slice none 0 0)),(7,1,.pv (.slice none 0 0)),(7,2,.pv (.slice none 0 0)),(7,3,.pv (.slice none 0 0)),(7,4,.pv (.slice none 0 0)),(16,0,zrI u2),(17,0,zrB b2),(18,0,zrI f2),(15,0,.row 62 5 n (qaB (ev))),(12,0,.row 3 1 mm (ziV (wh)))]) .ret [] ([(13,0,.ls 16 u2.length),(13,1,.ls 17 b2.length),(13,2,.ls 18 f2.length),(13,3,.ls 15 n),(13,4,.ls 12 mm),(7,0,.pv (.slice none 0 0)),(7,1,.pv (.slice none 0 0)),(7,2,.pv (.slice none 0 0)),(7,3,.pv (.slice none 0 0)),(7,4,.pv (.slice none 0 0)),(16,0,zrI u2),(17,0,zrB b2),(18,0,zrI f2),(15,0,.row 62 5 n (qaB (ev'))),(12,0,.row 3 1 mm (ziV (wh')))])) ?_ ?_ d ii ev wh a c I).1
 ·intro i ev wh x y ev' wh' I hi hl hx hy hlt r
  have ix:=I.ix x (List.mem_of_getElem? hx);have iy:=I.ix y (List.mem_of_getElem? hy)
  have ox:=I.ok x (List.mem_of_getElem? hx);have oy:=I.ok y (List.mem_of_getElem? hy)
  have l1:=I.len;have l2:=I.wl
  obtain⟨hyx,⟨hc,hb'⟩ | ⟨hc,m,hm,hbm⟩⟩:=qkQ I.ok hl hx hy
  ·rw[hc] at r hy hlt
   have hm:=hy
   have hlx:=qa1 oy.i ox.i;rw[hyx] at hlx
   by_cases h2:2*i+2<n
   ·have hb:ev[2*i+2]?=some (ev[2*i+2]'(by omega)):=List.getElem?_eq_getElem (by omega)
    generalize ev[2*i+2]'(by omega)=b at hb
    have ob:=I.ok b (List.mem_of_getElem? hb)
    have hl2:=qa1 ob.i oy.i;rw[hb' b hb] at hl2
    exact qeM (q:=2*i) (hq:=qjH (by omega)) (hq1:=qiD (by omega)) (hge:=decide_eq_false (by omega)) (hq2:=qlk (by omega)) (hin_x:=⟨by omega,by omega⟩) (he_x:=hx) (h2:=decide_eq_true (by omega)) (hin_y:=⟨by omega,by omega⟩) (he_y:=hb) (hin_m:=⟨by omega,by omega⟩) (he_m:=hm) (hl2:=hl2) (hl:=hlx) (hsa:=by omega) (hsb:=by rw[List.length_set];omega) (h2a:=qx5 l1 (by omega) (by omega) (by omega)) (h2b:=qyd l1 (by omega) (by omega) (by omega)) (hwb:=iy) (hwbl:=by omega) (hwa:=ix) (hwal:=by rw[List.length_set];omega) (r:=r)
   ·exact qfH (q:=2*i) (hq:=qjH (by omega)) (hq1:=qiD (by omega)) (hge:=decide_eq_false (by omega)) (hq2:=qlk (by omega)) (hin_x:=⟨by omega,by omega⟩) (he_x:=hx) (h2:=decide_eq_false (by omega)) (hin_m:=⟨by omega,by omega⟩) (he_m:=hm) (hl:=hlx) (hsa:=by omega) (hsb:=by rw[List.length_set];omega) (h2a:=qx5 l1 (by omega) (by omega) (by omega)) (h2b:=qyd l1 (by omega) (by omega) (by omega)) (hwb:=iy) (hwbl:=by omega) (hwa:=ix) (hwal:=by rw[List.length_set];omega) (r:=r)
  ·rw[hc] at r hy hlt
   have hb:=hy
   have hlx:=qa1 oy.i ox.i;rw[hyx] at hlx
   have om:=I.ok m (List.mem_of_getElem? hm)
   have hl2:=qa1 oy.i om.i;rw[hbm] at hl2
   exact qeu (q:=2*i) (hq:=qjH (by omega)) (hq1:=qiD (by omega)) (hge:=decide_eq_false (by omega)) (hq2:=qlk (by omega)) (hin_x:=⟨by omega,by omega⟩) (he_x:=hx) (h2:=decide_eq_true (by omega)) (hin_y:=⟨by omega,by omega⟩) (he_y:=hb) (hin_m:=⟨by omega,by omega⟩) (he_m:=hm) (hl2:=hl2) (hl:=hlx) (hsa:=by omega) (hsb:=by rw[List.length_set];omega) (h2a:=qx5 l1 (by omega) (by omega) (by omega)) (h2b:=qyd l1 (by omega) (by omega) (by omega)) (hwb:=iy) (hwbl:=by omega) (hwa:=ix) (hwal:=by rw[List.length_set];omega) (r:=r)
 ·intro i ev wh I hi hl
  have l1:=I.len
  obtain⟨x,hx⟩:∃ x,ev[i]?=some x:=⟨_,List.getElem?_eq_getElem (by omega)⟩
  have ox:=I.ok x (List.mem_of_getElem? hx)
  have sp:∀ c,(c=i∨c=2*i+1∨c=2*i+2)→∀ z,ev[c]?=some z→ltE z x=false:=fun c hc z hz=>qc8 I.ok hc z x hz (by rw[hl];exact hx)
  by_cases h1:2*i+1<n
  ·have hm:ev[2*i+1]?=some (ev[2*i+1]'(by omega)):=List.getElem?_eq_getElem (by omega)
   generalize ev[2*i+1]'(by omega)=m at hm
   have om:=I.ok m (List.mem_of_getElem? hm)
   have hlm:=qa1 om.i ox.i;rw[sp _ (.inr (.inl rfl)) m hm] at hlm
   by_cases h2:2*i+2<n
   ·have hb:ev[2*i+2]?=some (ev[2*i+2]'(by omega)):=List.getElem?_eq_getElem (by omega)
    generalize ev[2*i+2]'(by omega)=b at hb
    have ob:=I.ok b (List.mem_of_getElem? hb)
    have hlb:=qa1 ob.i ox.i;rw[sp _ (.inr (.inr rfl)) b hb] at hlb
    have hl2:=qa1 ob.i om.i
    cases e:ltE b m<;>rw[e] at hl2
    ·exact qeO (q:=2*i) (hq:=qjH (by omega)) (hq1:=qiD (by omega)) (hge:=decide_eq_false (by omega)) (hq2:=qlk (by omega)) (hin_x:=⟨by omega,by omega⟩) (he_x:=hx) (h2:=decide_eq_true (by omega)) (hin_y:=⟨by omega,by omega⟩) (he_y:=hb) (hin_m:=⟨by omega,by omega⟩) (he_m:=hm) (hl2:=hl2) (hl:=hlm)
    ·exact qep (q:=2*i) (hq:=qjH (by omega)) (hq1:=qiD (by omega)) (hge:=decide_eq_false (by omega)) (hq2:=qlk (by omega)) (hin_x:=⟨by omega,by omega⟩) (he_x:=hx) (h2:=decide_eq_true (by omega)) (hin_y:=⟨by omega,by omega⟩) (he_y:=hb) (hin_m:=⟨by omega,by omega⟩) (he_m:=hm) (hl2:=hl2) (hl:=hlb)
   ·exact qfa (q:=2*i) (hq:=qjH (by omega)) (hq1:=qiD (by omega)) (hge:=decide_eq_false (by omega)) (hq2:=qlk (by omega)) (hin_x:=⟨by omega,by omega⟩) (he_x:=hx) (h2:=decide_eq_false (by omega)) (hin_m:=⟨by omega,by omega⟩) (he_m:=hm) (hl:=hlm)
  ·exact qjx (q:=2*i) (hq:=qjH (by omega)) (hq1:=qiD (by omega)) (hge:=decide_eq_true (by omega))
end Go.Proofs.YtkjaanhddkkodaaGreat
