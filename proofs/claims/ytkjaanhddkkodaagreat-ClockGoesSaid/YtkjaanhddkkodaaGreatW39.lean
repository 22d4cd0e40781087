/-
  Joined: Yp, Yv, Vf, Vg, Vh, Vi, Ys, Yz. Conditions: none.
-/
import Derived.Test.YtkjaanhddkkodaaGreatYo
import Derived.Test.YtkjaanhddkkodaaGreatW18
import Derived.Test.YtkjaanhddkkodaaGreatZj
namespace Go.Proofs.YtkjaanhddkkodaaGreat
set_option maxRecDepth 100000
open Go.RowKit
structure P2 where
 a:Int
 b:Int
deriving DecidableEq
def p2V:List P2→List Value
 | []=>[]
 | m::r=>iV m.a::iV m.b::p2V r
abbrev qHT (l:List P2):SV:=.row 23 2 l.length (p2V l)
abbrev qHS (l:List P2):SV:=.row 52 2 l.length (p2V l)
end Go.Proofs.YtkjaanhddkkodaaGreat

namespace Go.Proofs.YtkjaanhddkkodaaGreat
set_option maxRecDepth 100000
open Go.ChangeShapes Go.WideShapes Go.ChangeAt Go.RowKit Go.Joins Go.Deep
theorem qGf:Tryz.prog.cellsOf 62=5:=by kernel_rfl
theorem qAl:Tryz.prog.cellsOf 23=2:=by kernel_rfl
theorem qBx:Tryz.prog.cellsOf 52=2:=by kernel_rfl
theorem qtK:Tryz.prog.cellsOf 2=1:=by kernel_rfl
theorem qGD:Tryz.prog.cellsOf 34=1:=by kernel_rfl
theorem qED:Tryz.prog.cellsOf 36=5:=by kernel_rfl
theorem qDD {n:Int} (h:(Lit.int .i64 n).wf=true):I64 n:=by
 simp only[Lit.wf,Bool.and_eq_true,decide_eq_true_eq] at h
 have h1:IntKind.i64.min = -9223372036854775808:=by decide
 have h2:IntKind.i64.max=9223372036854775807:=by decide
 rw[h1,h2] at h
 exact h
section
variable {H:Type} {enc:TypeId×Value→H} {W:World} {base:Nat} {spare:Nat→Bool} {held:Bool}
theorem qC3 (f:Nat→Ev):∀ (n j:Nat) (v:Value),(qat ((List.range n).map f))[j]?=some v→j/5<n∧(ecV (f (j/5)))[j%5]?=some v:=by
 intro n j v h
 have hj:j<n*5:=by
  have:=(List.getElem?_eq_some_iff.1 h).1
  rw[qbc] at this
  simpa using this
 have hk:j/5<n:=by omega
 obtain⟨g0,g1,g2,g3,g4⟩:=qcF (l:=(List.range n).map f) (k:=j/5) (m:=f (j/5)) (by simp[hk])
 refine⟨hk,?_⟩
 have h5:j%5=0∨j%5=1∨j%5=2∨j%5=3∨j%5=4:=by omega
 have e:j=j/5*5+j%5:=by omega
 rw[e] at h
 rcases h5 with e3 | e3 | e3 | e3 | e3<;>rw[e3] at h ⊢
 ·rw[Nat.add_zero,g0] at h;exact h
 ·rw[g1] at h;exact h
 ·rw[g2] at h;exact h
 ·rw[g3] at h;exact h
 ·rw[g4] at h;exact h
theorem qpF {fuel:Nat} {cs:List Value} {x:DataW H×List MemPlace} (h:DataW.trod enc Tryz.prog W base spare held fuel 34 cs=some x) :
 ∃ (u:Value) (l:List Ev),cs=[u]∧Rd W 5 u l.length (qat l)∧∀ p∈l,EvI p:=by
 rcases open_slice Tryz.underlying34 h with ⟨rfl,_⟩ | ⟨a,len,cap,m,n,D,Pl,rfl,_,hlc,_,hm,_,hi⟩
 ·exact⟨_,[],rfl,⟨rfl,none,0,rfl,Nat.le_refl _,fun j v hv=>by simp[qat] at hv⟩,fun p hp=>by simp at hp⟩
 have hlm:len≤m:=by rw[hm];split<;>omega
 have each:∀ i,i<len→∃ p:Ev,(W.cell? (a.add (i*5))=some (iV p.n)∧W.cell? (a.add (i*5+1))=some (iV p.d)∧W.cell? (a.add (i*5+2))=some (iV p.k)∧W.cell? (a.add (i*5+3))=some (iV p.i)∧W.cell? (a.add (i*5+4))=some (iV p.w))∧EvI p:=by
  intro i hil
  obtain⟨cs',hc,ht⟩:=hi i (by omega)
  rw[qGf] at hc
  obtain⟨y0,y1,y2,n',_,hlen,t0,t1,t2⟩:=trod_struct3 Tryz.underlying62 ht
  obtain⟨z0,z1,n2,_,hlen2,s0,s1⟩:=trod_struct2 Tryz.underlying23 t0
  obtain⟨z2,z3,n3,_,hlen3,s2,s3⟩:=trod_struct2 Tryz.underlying52 t2
  obtain⟨_,hcl,hat⟩:=World.cells?_some hc
  match cs',hcl with
  | [c0,c1,c2,c3,c4],_=>
   obtain⟨pn,e0,_,w0⟩:=DataW.trod_int Tryz.underlying2 s0
   obtain⟨pd,e1,_,w1⟩:=DataW.trod_int Tryz.underlying2 s1
   obtain⟨pk,e2,_,w2⟩:=DataW.trod_int Tryz.underlying3 t1
   obtain⟨pi,e3,_,w3⟩:=DataW.trod_int Tryz.underlying3 s2
   obtain⟨pw,e4,_,w4⟩:=DataW.trod_int Tryz.underlying3 s3
   simp[qAe,qtK,qAl,qBx] at e0 e1 e2 e3 e4
   refine⟨⟨pn,pd,pk,pi,pw⟩,⟨?_,?_,?_,?_,?_⟩,qDD w0,qDD w1⟩
   ·have:=hat 0 (by omega);rw[add_add] at this;simpa [e0] using this
   ·have:=hat 1 (by omega);rw[add_add] at this;simpa [e1] using this
   ·have:=hat 2 (by omega);rw[add_add] at this;simpa [e2] using this
   ·have:=hat 3 (by omega);rw[add_add] at this;simpa [e3] using this
   ·have:=hat 4 (by omega);rw[add_add] at this;simpa [e4] using this
 haveI:Inhabited Ev:=⟨⟨0,0,0,0,0⟩⟩
 obtain⟨f,hf⟩:=choose_lt (α:=Ev) each
 refine⟨_,(List.range len).map f,rfl,⟨qbc _,some a,cap,by simp,by simpa using hlc,fun j v hv=>?_⟩,fun p hp=>?_⟩
 ·obtain⟨hk,he⟩:=qC3 f len j v hv
  obtain⟨c0,c1,c2,c3,c4⟩:=(hf _ hk).1
  have hcell:W.cell? (a.add j)=some v:=by
   have h5:j%5=0∨j%5=1∨j%5=2∨j%5=3∨j%5=4:=by omega
   have e:j=j/5*5+j%5:=by omega
   rcases h5 with e3 | e3 | e3 | e3 | e3<;>rw[e3] at he e<;>rw[e]<;>simp at he<;>subst he
   ·exact c0
   ·exact c1
   ·exact c2
   ·exact c3
   ·exact c4
  obtain⟨b,off,spot⟩:=a
  have hs:spot=none:=by simpa [Addr.add] using World.cell?_spot (hf 0 (by omega)).1.1
  subst hs
  exact⟨b,off,rfl,by rw[← Go.WideShapes.add_plain];exact hcell⟩
 ·obtain⟨i,hi',rfl⟩:=List.mem_map.1 hp
  exact (hf i (List.mem_range.1 hi')).2
end
end Go.Proofs.YtkjaanhddkkodaaGreat

namespace Go.Proofs.YtkjaanhddkkodaaGreat
set_option maxRecDepth 100000
open Go.RowKit
theorem qF3 (a c d e g:Nat):SV.ag [.ls 7 a,.ls 8 c,.ls 9 d,.ls 11 (0+e),.ls 13 (0+g)]=SV.ag [.ls 7 a,.ls 8 c,.ls 9 d,.ls 11 e,.ls 13 g]:=by rw[Nat.zero_add,Nat.zero_add]
theorem qjf (e:TypeId) (s n:Nat) (xs:List Value):some (SV.row e s (0+n) ([]++xs))=some (SV.row e s n xs):=by rw[Nat.zero_add,List.nil_append]
abbrev qC2 (b:List Bool) (ev:List Ev) (fr:List Int) (u:List Int) (wh:List Int):HpL:=[(0,0,zrI u),(1,0,zrB b),(2,0,zrI fr),(3,0,qap ev),(4,0,zrI wh)]
theorem qGK {u fr wh:List Int} {b:List Bool} {ev:List Ev} (h6:Fn 101 3 [.ag [.ls 0 u.length,.ls 1 b.length,.ls 2 fr.length]] [(0,0,zrI u),(1,0,zrB b),(2,0,zrI fr)] (.ag [.ls 3 u.length,.ls 4 b.length,.ls 5 fr.length]) 3 [(3,0,zrI u),(4,0,zrB b),(5,0,zrI fr)]) (ne:0+ev.length≤1000000) (nw:0+wh.length≤1000000) :
 Fn 54 5 [agA u b fr ev wh] (qC2 b ev fr u wh) (.ag [.ls 5 u.length,.ls 6 b.length,.ls 7 fr.length,.ls 8 ev.length,.ls 9 wh.length]) 5 [(5,0,zrI u),(6,0,zrB b),(7,0,zrI fr),(8,0,qap ev),(9,0,zrI wh)]:=
 Fx [(5,7),(6,8),(7,9),(8,11),(9,13)] [.md,Cf h6 [0,1,2]]
  (qF3 u.length b.length fr.length ev.length wh.length) (Ai (Er (zrI u)) (Ai (Er (zrB b)) (Ai (Er (zrI fr)) (Ai (qjf 62 5 ev.length (qat ev)) (Ai (qjf 3 1 wh.length (ziV wh)) tI))))) (Co h6 [0,1,2] 7 (Ai ne (Ai nw tI)))
theorem qsX {u fr wh:List Int} {b:List Bool} {ev:List Ev} {hi hw:Int} (hc:Fn 77 5 [agA u b fr ev wh] (qC2 b ev fr u wh) (.pv (iV (0))) 0 []) (hl:Fn 132 3 [.ag [.ls 0 u.length,.ls 1 b.length,.ls 2 fr.length],.pv (qaG hi hw)] [(0,0,zrI u),(1,0,zrB b),(2,0,zrI fr)] (.pv (.bool false)) 0 []) :
 Fn 78 5 [agA u b fr ev wh,.pv (qaG hi hw)] (qC2 b ev fr u wh) (.pv (.tuple #[.agg #[iV 0,iV 0,iV 0,iV 0,iV 0],iV 6])) 0 []:=
 Fz [] [Cf hc [0,1,2,3,4],.k,Cf hl [0,1,2],.k]
  tI (Co hc [0,1,2,3,4] 8 (Co hl [0,1,2] 8 tI))
theorem qAM {u fr wh:List Int} {b:List Bool} {ev:List Ev} {x:Ev} {hi hw:Int} {j:Nat} (hc:Fn 77 5 [agA u b fr ev wh] (qC2 b ev fr u wh) (.pv (iV (0))) 0 []) (hl:Fn 132 3 [.ag [.ls 0 u.length,.ls 1 b.length,.ls 2 fr.length],.pv (qaG hi hw)] [(0,0,zrI u),(1,0,zrB b),(2,0,zrI fr)] (.pv (.bool true)) 0 []) (hiw:0≤hi∧hi<(wh.length:Int)) (hw_:wh[hi.toNat]?=some (j:Int)) (hij:0≤(j:Int)∧(j:Int)<(ev.length:Int)) (hx:ev[j]?=some x) :
 Fn 78 5 [agA u b fr ev wh,.pv (qaG hi hw)] (qC2 b ev fr u wh) (.pv (.tuple #[qaa x,iV 0])) 0 []:=
 Fz [] [Cf hc [0,1,2,3,4],.k,Cf hl [0,1,2],.k,.md,.r (iV (j:Int)),.r (qaa x)]
  tI (Co hc [0,1,2,3,4] 8 (Co hl [0,1,2] 8 (Ai hiw (Ai (qcW hw_) (Ai hij (Ai (qaC hx) tI))))))
abbrev qDB (b:List Bool) (ev:List Ev) (fr:List Int) (u:List Int) (wh:List Int):HpL:=[(10,0,.ls 0 u.length),(10,1,.ls 1 b.length),(10,2,.ls 2 fr.length),(10,3,.ls 3 ev.length),(10,4,.ls 4 wh.length),(11,0,.ls 5 u.length),(11,1,.ls 6 b.length),(11,2,.ls 7 fr.length),(11,3,.ls 8 ev.length),(11,4,.ls 9 wh.length),(3,0,qap ev),(8,0,qap ev)]
theorem qrm {u fr wh:List Int} {b:List Bool} {ev:List Ev} {m:Ev} {k:Nat} (hk:ev[k]?=some m) (hin:0≤(k:Int)∧(k:Int)<(ev.length:Int)) (hlt:decide ((k:Int)<(ev.length:Int))=true) (hq:(!((m.n==m.n&&(m.d==m.d&&true))&&(m.k==m.k&&((m.i==m.i&&(m.w==m.w&&true))&&true))))=false) (hs:iV (IntKind.i64.wrap ((k:Int)+1))=iV (((k+1:Nat):Int))) {e:Exit} {tm2:TmL} {hp2:HpL}
 (r:Rl 10 10 67 0 47 12 ([(2,.pp 10 0),(3,.pp 11 0),(5,.pv (iV ((k+1:Nat):Int)))]) (qDB b ev fr u wh) e tm2 hp2):Rl 10 10 67 0 47 12 ([(2,.pp 10 0),(3,.pp 11 0),(5,.pv (iV (k:Int)))]) (qDB b ev fr u wh) e tm2 hp2:=
 RunsL.next [] 300 [.t true,.r (qaa m),.r (qaa m),.t false,Re hs]
  (Ro (Ai hlt (Ai hin (Ai (qaC hk) (Ai hin (Ai (qaC hk) (Ai hq (Ai hs tI)))))))) r
theorem quF {u fr wh:List Int} {b:List Bool} {ev:List Ev} {k:Nat} (hge:decide ((k:Int)<(ev.length:Int))=false):Rl 10 10 67 0 47 12 ([(2,.pp 10 0),(3,.pp 11 0),(5,.pv (iV (k:Int)))]) (qDB b ev fr u wh) (.exit 0) ([]) ([]):=
 RunsL.stop [] 300 [.t false] (fun h=>by cases h)
  (Ro (Ai hge tI))
theorem qpw {u fr wh:List Int} {b:List Bool} {ev:List Ev} {hi:Int} (h6:Fn 119 6 [.ag [.ls 0 u.length,.ls 1 b.length,.ls 2 fr.length],.ag [.ls 3 u.length,.ls 4 b.length,.ls 5 fr.length]] [(0,0,zrI u),(1,0,zrB b),(2,0,zrI fr),(3,0,zrI u),(4,0,zrB b),(5,0,zrI fr)] (.pv (.bool true)) 0 []) (hi:Fn 120 2 [.ls 0 wh.length,.ls 1 wh.length] [(0,0,zrI wh),(1,0,zrI wh)] (.pv (.bool true)) 0 []) (hle:(!((ev.length:Int)==(ev.length:Int)))=false) (r0:Rl 10 10 67 0 47 12 ([(2,.pp 10 0),(3,.pp 11 0),(5,.pv (iV ((0:Nat):Int)))]) (qDB b ev fr u wh) (.exit 0) ([]) ([])) :
 Fn 67 10 [agA u b fr ev wh,.ag [.ls 5 u.length,.ls 6 b.length,.ls 7 fr.length,.ls 8 ev.length,.ls 9 wh.length]] [(0,0,zrI u),(1,0,zrB b),(2,0,zrI fr),(3,0,qap ev),(4,0,zrI wh),(5,0,zrI u),(6,0,zrB b),(7,0,zrI fr),(8,0,qap ev),(9,0,zrI wh)] (.pv (.bool true)) 0 []:=
 Fz [] [Cf h6 [0,1,2,5,6,7],.k,Cf hi [4,9],.k,.t false,Lf r0]
  tI (Co h6 [0,1,2,5,6,7] 12 (Co hi [4,9] 12 (Ai hle (Lo r0 [] tI))))
end Go.Proofs.YtkjaanhddkkodaaGreat

namespace Go.Proofs.YtkjaanhddkkodaaGreat
set_option maxRecDepth 100000
open Go.RowKit
abbrev qFt (b:List Bool) (ev:List Ev) (fr:List Int) (mm:Nat) (n:Nat) (u:List Int) (wh:List Int):HpL:=[(15,0,.ls 9 u.length),(15,1,.ls 10 b.length),(15,2,.ls 11 fr.length),(15,3,.ls 12 n),(15,4,.ls 13 mm),(14,0,.ls 9 u.length),(14,1,.ls 10 b.length),(14,2,.ls 11 fr.length),(14,3,.ls 12 n),(14,4,.ls 13 mm),(8,0,.pv (.slice none 0 0)),(8,1,.pv (.slice none 0 0)),(8,2,.pv (.slice none 0 0)),(8,3,.pv (.slice none 0 0)),(8,4,.pv (.slice none 0 0)),(9,0,zrI u),(10,0,zrB b),(11,0,zrI fr),(12,0,.row 62 5 n (qat (ev))),(13,0,.row 3 1 mm (ziV (wh)))]
abbrev qDi (k:Nat):TmL:=[(1,.pv (iV (k:Int))),(2,.pp 15 0)]
theorem qlB {u fr wh:List Int} {b:List Bool} {ev:List Ev} {x y:Ev} {k j q n mm:Nat} (n2:¬ (2:Int)=0) (hin_x:0≤(k:Int)∧(k:Int)<(n:Int)) (he_x:ev[k]?=some x) (hin_y:0≤(j:Int)∧(j:Int)<(n:Int)) (he_y:ev[j]?=some y) (h0:decide ((k:Int)>0)=true) (hm1:iV (IntKind.i64.wrap ((k:Int)-1))=iV (q:Int)) (hm2:iV (IntKind.i64.wrap (Int.tdiv (q:Int) 2))=iV (j:Int)) (hl:Pure Tryz.prog 131 #[qaa x,qaa y] (.bool true)) (hsa:k<(ev).length) (hsb:j<((ev).set k y).length) (h2a:(((ev).set k y).set j x)[k]?=some y) (h2b:(((ev).set k y).set j x)[j]?=some x) (hwb:0≤y.i∧y.i<(mm:Int)) (hwbl:y.i.toNat<(wh).length) (hwa:0≤x.i∧x.i<(mm:Int)) (hwal:x.i.toNat<((wh).set y.i.toNat (k:Int)).length) {e:Exit} {tm2:TmL} {hp2:HpL}
 (r:Rl 5 15 178 0 32 16 ([(1,.pv (iV (j:Int))),(2,.pp 15 0)]) ([(15,0,.ls 9 u.length),(15,1,.ls 10 b.length),(15,2,.ls 11 fr.length),(15,3,.ls 12 n),(15,4,.ls 13 mm),(14,0,.ls 9 u.length),(14,1,.ls 10 b.length),(14,2,.ls 11 fr.length),(14,3,.ls 12 n),(14,4,.ls 13 mm),(8,0,.pv (.slice none 0 0)),(8,1,.pv (.slice none 0 0)),(8,2,.pv (.slice none 0 0)),(8,3,.pv (.slice none 0 0)),(8,4,.pv (.slice none 0 0)),(9,0,zrI u),(10,0,zrB b),(11,0,zrI fr),(12,0,.row 62 5 n (qat (((ev).set k y).set j x))),(13,0,.row 3 1 mm (ziV (((wh).set y.i.toNat (k:Int)).set x.i.toNat (j:Int))))]) e tm2 hp2):Rl 5 15 178 0 32 16 (qDi k) (qFt b ev fr mm n u wh) e tm2 hp2:=
 RunsL.next [] 300 [.t true,.r (qaa x),Re hm1,Re hm2,.r (qaa y),Rf hl,Re hm1,Re hm2,.k,.gh [(16,3)],.r (qaa y),.r (qaa x),.w (qat ((ev).set k y)),.w (qat (((ev).set k y).set j x)),.gh [(16,3),(16,4)],.r (iV (y.i)),.r (iV (x.i)),.w (ziV ((wh).set y.i.toNat (k:Int))),.w (ziV (((wh).set y.i.toNat (k:Int)).set x.i.toNat (j:Int))),Re hm1,Re hm2]
  (Ro (Ai h0 (Ai hin_x (Ai (qaC he_x) (Ai hm1 (Ai n2 (Ai hm2 (Ai hin_y (Ai (qaC he_y) (Ai hl (Ai hm1 (Ai n2 (Ai hm2 (Ai hin_y (Ai hin_x (Ai (qaC he_y) (Ai (qaC he_x) (Ai hin_x (Ai (Er (SV.ls 12 n)) (Ai (qdg (ev) k y hsa) (Ai (qbk (ev) k hsa) (Ai (Er (SV.ls 12 n)) (Ai hin_y (Ai (Er (SV.ls 12 n)) (Ai (qdg ((ev).set k y) j x hsb) (Ai (qbk ((ev).set k y) j hsb) (Ai (Er (SV.ls 12 n)) (Ai hin_x (Ai hin_y (Ai (qfy h2a) (Ai (qfy h2b) (Ai hwb (Ai (Er (SV.ls 12 n)) (Ai (Er (SV.ls 13 mm)) (Ai (qcv (wh) y.i.toNat (k:Int) hwbl) (Ai (qaJ (wh) y.i.toNat hwbl) (Ai (Er (SV.ls 12 n)) (Ai (Er (SV.ls 13 mm)) (Ai hwa (Ai (Er (SV.ls 12 n)) (Ai (Er (SV.ls 13 mm)) (Ai (qcv ((wh).set y.i.toNat (k:Int)) x.i.toNat (j:Int) hwal) (Ai (qaJ ((wh).set y.i.toNat (k:Int)) x.i.toNat hwal) (Ai (Er (SV.ls 12 n)) (Ai (Er (SV.ls 13 mm)) (Ai hm1 (Ai n2 (Ai hm2 tI)))))))))))))))))))))))))))))))))))))))))))))))) r
abbrev qyn (b:List Bool) (ev:List Ev) (fr:List Int) (mm:Nat) (n:Nat) (u:List Int) (wh:List Int):HpL:=[(14,0,.ls 9 u.length),(14,1,.ls 10 b.length),(14,2,.ls 11 fr.length),(14,3,.ls 12 n),(14,4,.ls 13 mm),(8,0,.pv (.slice none 0 0)),(8,1,.pv (.slice none 0 0)),(8,2,.pv (.slice none 0 0)),(8,3,.pv (.slice none 0 0)),(8,4,.pv (.slice none 0 0)),(9,0,zrI u),(10,0,zrB b),(11,0,zrI fr),(12,0,.row 62 5 n (qat (ev))),(13,0,.row 3 1 mm (ziV (wh)))]
theorem qmC {u fr wh:List Int} {b:List Bool} {ev:List Ev} {x y:Ev} {k j q n mm:Nat} (n2:¬ (2:Int)=0) (hin_x:0≤(k:Int)∧(k:Int)<(n:Int)) (he_x:ev[k]?=some x) (hin_y:0≤(j:Int)∧(j:Int)<(n:Int)) (he_y:ev[j]?=some y) (h0:decide ((k:Int)>0)=true) (hm1:iV (IntKind.i64.wrap ((k:Int)-1))=iV (q:Int)) (hm2:iV (IntKind.i64.wrap (Int.tdiv (q:Int) 2))=iV (j:Int)) (hl:Pure Tryz.prog 131 #[qaa x,qaa y] (.bool false)):Rl 5 15 178 0 32 16 (qDi k) (qFt b ev fr mm n u wh) (.exit 0) ([(1,.pv (iV (k:Int)))]) (qyn b ev fr mm n u wh):=
 RunsL.stop [] 300 [.t true,.r (qaa x),Re hm1,Re hm2,.r (qaa y),Rf hl] (fun h=>by cases h)
  (Ro (Ai h0 (Ai hin_x (Ai (qaC he_x) (Ai hm1 (Ai n2 (Ai hm2 (Ai hin_y (Ai (qaC he_y) (Ai hl tI))))))))))
theorem qmj {u fr wh:List Int} {b:List Bool} {ev:List Ev} {k n mm:Nat} (h0:decide ((k:Int)>0)=false):Rl 5 15 178 0 32 16 (qDi k) (qFt b ev fr mm n u wh) (.exit 0) ([(1,.pv (iV (k:Int)))]) (qyn b ev fr mm n u wh):=
 RunsL.stop [] 300 [.t false] (fun h=>by cases h)
  (Ro (Ai h0 tI))
abbrev qw3 (b:List Bool) (ev:List Ev) (fr:List Int) (mm:Nat) (n:Nat) (u:List Int) (wh:List Int):HpL:=[(16,0,.ls 9 u.length),(16,1,.ls 10 b.length),(16,2,.ls 11 fr.length),(16,3,.ls 12 n),(16,4,.ls 13 mm),(14,0,.ls 9 u.length),(14,1,.ls 10 b.length),(14,2,.ls 11 fr.length),(14,3,.ls 12 n),(14,4,.ls 13 mm),(8,0,.pv (.slice none 0 0)),(8,1,.pv (.slice none 0 0)),(8,2,.pv (.slice none 0 0)),(8,3,.pv (.slice none 0 0)),(8,4,.pv (.slice none 0 0)),(9,0,zrI u),(10,0,zrB b),(11,0,zrI fr),(12,0,.row 62 5 n (qat (ev))),(13,0,.row 3 1 mm (ziV (wh)))]
abbrev qwj (k:Nat):TmL:=[(1,.pv (iV (k:Int))),(2,.pp 16 0)]
theorem qlW {u fr wh:List Int} {b:List Bool} {ev:List Ev} {k q n mm:Nat} (hq:iV (IntKind.i64.wrap (2*(k:Int)))=iV (q:Int)) (hq1:iV (IntKind.i64.wrap ((q:Int)+1))=iV (((q+1:Nat):Int))) (hge:decide (((q+1:Nat):Int)≥(n:Int))=true):Rl 5 16 181 0 52 17 (qwj k) (qw3 b ev fr mm n u wh) (.ret) ([]) (qyn b ev fr mm n u wh):=
 RunsL.stop [] 300 [Re hq,Re hq1,.t true] (fun h=>by cases h)
  (Ro (Ai hq (Ai hq1 (Ai hge tI))))
abbrev qGJ (b:List Bool) (ev:List Ev) (fr:List Int) (k:Nat) (m:Ev) (mm:Nat) (n:Nat) (q:Nat) (u:List Int) (wh:List Int) (x:Ev):HpL:=[(16,0,.ls 9 u.length),(16,1,.ls 10 b.length),(16,2,.ls 11 fr.length),(16,3,.ls 12 n),(16,4,.ls 13 mm),(14,0,.ls 9 u.length),(14,1,.ls 10 b.length),(14,2,.ls 11 fr.length),(14,3,.ls 12 n),(14,4,.ls 13 mm),(8,0,.pv (.slice none 0 0)),(8,1,.pv (.slice none 0 0)),(8,2,.pv (.slice none 0 0)),(8,3,.pv (.slice none 0 0)),(8,4,.pv (.slice none 0 0)),(9,0,zrI u),(10,0,zrB b),(11,0,zrI fr),(12,0,.row 62 5 n (qat (((ev).set k m).set (q+1:Nat) x))),(13,0,.row 3 1 mm (ziV (((wh).set m.i.toNat (k:Int)).set x.i.toNat ((q+1:Nat):Int))))]
theorem qf6 {u fr wh:List Int} {b:List Bool} {ev:List Ev} {x m:Ev} {k q n mm:Nat} (hq:iV (IntKind.i64.wrap (2*(k:Int)))=iV (q:Int)) (hq1:iV (IntKind.i64.wrap ((q:Int)+1))=iV (((q+1:Nat):Int))) (hge:decide (((q+1:Nat):Int)≥(n:Int))=false) (hq2:iV (IntKind.i64.wrap (((q+1:Nat):Int)+1))=iV (((q+2:Nat):Int))) (h2:decide (((q+2:Nat):Int)<(n:Int))=false) (hin_m:0≤((q+1:Nat):Int)∧((q+1:Nat):Int)<(n:Int)) (he_m:ev[(q+1:Nat)]?=some m) (hin_x:0≤(k:Int)∧(k:Int)<(n:Int)) (he_x:ev[k]?=some x) (hl:Pure Tryz.prog 131 #[qaa m,qaa x] (.bool true)) (hsa:k<(ev).length) (hsb:(q+1:Nat)<((ev).set k m).length) (h2a:(((ev).set k m).set (q+1:Nat) x)[k]?=some m) (h2b:(((ev).set k m).set (q+1:Nat) x)[(q+1:Nat)]?=some x) (hwb:0≤m.i∧m.i<(mm:Int)) (hwbl:m.i.toNat<(wh).length) (hwa:0≤x.i∧x.i<(mm:Int)) (hwal:x.i.toNat<((wh).set m.i.toNat (k:Int)).length) {e:Exit} {tm2:TmL} {hp2:HpL}
 (r:Rl 5 16 181 0 52 17 ([(1,.pv (iV ((q+1:Nat):Int))),(2,.pp 16 0)]) (qGJ b ev fr k m mm n q u wh x) e tm2 hp2):Rl 5 16 181 0 52 17 (qwj k) (qw3 b ev fr mm n u wh) e tm2 hp2:=
 RunsL.next [] 300 [Re hq,Re hq1,.t false,.r (iV (((q+2:Nat):Int))),.t false,.r (qaa m),.r (qaa x),Rf hl,.k,.k,.gh [(17,3)],.r (qaa m),.r (qaa x),.w (qat ((ev).set k m)),.w (qat (((ev).set k m).set (q+1:Nat) x)),.gh [(17,3),(17,4)],.r (iV (m.i)),.r (iV (x.i)),.w (ziV ((wh).set m.i.toNat (k:Int))),.w (ziV (((wh).set m.i.toNat (k:Int)).set x.i.toNat ((q+1:Nat):Int)))]
  (Ro (Ai hq (Ai hq1 (Ai hge (Ai hq2 (Ai h2 (Ai hin_m (Ai (qaC he_m) (Ai hin_x (Ai (qaC he_x) (Ai hl (Ai hin_m (Ai hin_x (Ai (qaC he_m) (Ai (qaC he_x) (Ai hin_x (Ai (Er (SV.ls 12 n)) (Ai (qdg (ev) k m hsa) (Ai (qbk (ev) k hsa) (Ai (Er (SV.ls 12 n)) (Ai hin_m (Ai (Er (SV.ls 12 n)) (Ai (qdg ((ev).set k m) (q+1:Nat) x hsb) (Ai (qbk ((ev).set k m) (q+1:Nat) hsb) (Ai (Er (SV.ls 12 n)) (Ai hin_x (Ai hin_m (Ai (qfy h2a) (Ai (qfy h2b) (Ai hwb (Ai (Er (SV.ls 12 n)) (Ai (Er (SV.ls 13 mm)) (Ai (qcv (wh) m.i.toNat (k:Int) hwbl) (Ai (qaJ (wh) m.i.toNat hwbl) (Ai (Er (SV.ls 12 n)) (Ai (Er (SV.ls 13 mm)) (Ai hwa (Ai (Er (SV.ls 12 n)) (Ai (Er (SV.ls 13 mm)) (Ai (qcv ((wh).set m.i.toNat (k:Int)) x.i.toNat ((q+1:Nat):Int) hwal) (Ai (qaJ ((wh).set m.i.toNat (k:Int)) x.i.toNat hwal) (Ai (Er (SV.ls 12 n)) (Ai (Er (SV.ls 13 mm)) tI))))))))))))))))))))))))))))))))))))))))))) r
theorem qfZ {u fr wh:List Int} {b:List Bool} {ev:List Ev} {x m:Ev} {k q n mm:Nat} (hq:iV (IntKind.i64.wrap (2*(k:Int)))=iV (q:Int)) (hq1:iV (IntKind.i64.wrap ((q:Int)+1))=iV (((q+1:Nat):Int))) (hge:decide (((q+1:Nat):Int)≥(n:Int))=false) (hq2:iV (IntKind.i64.wrap (((q+1:Nat):Int)+1))=iV (((q+2:Nat):Int))) (h2:decide (((q+2:Nat):Int)<(n:Int))=false) (hin_m:0≤((q+1:Nat):Int)∧((q+1:Nat):Int)<(n:Int)) (he_m:ev[(q+1:Nat)]?=some m) (hin_x:0≤(k:Int)∧(k:Int)<(n:Int)) (he_x:ev[k]?=some x) (hl:Pure Tryz.prog 131 #[qaa m,qaa x] (.bool false)):Rl 5 16 181 0 52 17 (qwj k) (qw3 b ev fr mm n u wh) (.ret) ([]) (qyn b ev fr mm n u wh):=
 RunsL.stop [] 300 [Re hq,Re hq1,.t false,.r (iV (((q+2:Nat):Int))),.t false,.r (qaa m),.r (qaa x),Rf hl,.k] (fun h=>by cases h)
  (Ro (Ai hq (Ai hq1 (Ai hge (Ai hq2 (Ai h2 (Ai hin_m (Ai (qaC he_m) (Ai hin_x (Ai (qaC he_x) (Ai hl tI)))))))))))
theorem qfk {u fr wh:List Int} {b:List Bool} {ev:List Ev} {x y m:Ev} {k q n mm:Nat} (hq:iV (IntKind.i64.wrap (2*(k:Int)))=iV (q:Int)) (hq1:iV (IntKind.i64.wrap ((q:Int)+1))=iV (((q+1:Nat):Int))) (hge:decide (((q+1:Nat):Int)≥(n:Int))=false) (hq2:iV (IntKind.i64.wrap (((q+1:Nat):Int)+1))=iV (((q+2:Nat):Int))) (h2:decide (((q+2:Nat):Int)<(n:Int))=true) (hin_y:0≤((q+2:Nat):Int)∧((q+2:Nat):Int)<(n:Int)) (he_y:ev[(q+2:Nat)]?=some y) (hin_m:0≤((q+1:Nat):Int)∧((q+1:Nat):Int)<(n:Int)) (he_m:ev[(q+1:Nat)]?=some m) (hl2:Pure Tryz.prog 131 #[qaa y,qaa m] (.bool false)) (hin_x:0≤(k:Int)∧(k:Int)<(n:Int)) (he_x:ev[k]?=some x) (hl:Pure Tryz.prog 131 #[qaa m,qaa x] (.bool true)) (hsa:k<(ev).length) (hsb:(q+1:Nat)<((ev).set k m).length) (h2a:(((ev).set k m).set (q+1:Nat) x)[k]?=some m) (h2b:(((ev).set k m).set (q+1:Nat) x)[(q+1:Nat)]?=some x) (hwb:0≤m.i∧m.i<(mm:Int)) (hwbl:m.i.toNat<(wh).length) (hwa:0≤x.i∧x.i<(mm:Int)) (hwal:x.i.toNat<((wh).set m.i.toNat (k:Int)).length) {e:Exit} {tm2:TmL} {hp2:HpL}
 (r:Rl 5 16 181 0 52 17 ([(1,.pv (iV ((q+1:Nat):Int))),(2,.pp 16 0)]) (qGJ b ev fr k m mm n q u wh x) e tm2 hp2):Rl 5 16 181 0 52 17 (qwj k) (qw3 b ev fr mm n u wh) e tm2 hp2:=
 RunsL.next [] 300 [Re hq,Re hq1,.t false,.r (iV (((q+2:Nat):Int))),.t true,.r (iV (((q+2:Nat):Int))),.r (qaa y),.r (qaa m),Rf hl2,.r (qaa m),.r (qaa x),Rf hl,.k,.k,.gh [(17,3)],.r (qaa m),.r (qaa x),.w (qat ((ev).set k m)),.w (qat (((ev).set k m).set (q+1:Nat) x)),.gh [(17,3),(17,4)],.r (iV (m.i)),.r (iV (x.i)),.w (ziV ((wh).set m.i.toNat (k:Int))),.w (ziV (((wh).set m.i.toNat (k:Int)).set x.i.toNat ((q+1:Nat):Int)))]
  (Ro (Ai hq (Ai hq1 (Ai hge (Ai hq2 (Ai h2 (Ai hq2 (Ai hin_y (Ai (qaC he_y) (Ai hin_m (Ai (qaC he_m) (Ai hl2 (Ai hin_m (Ai (qaC he_m) (Ai hin_x (Ai (qaC he_x) (Ai hl (Ai hin_m (Ai hin_x (Ai (qaC he_m) (Ai (qaC he_x) (Ai hin_x (Ai (Er (SV.ls 12 n)) (Ai (qdg (ev) k m hsa) (Ai (qbk (ev) k hsa) (Ai (Er (SV.ls 12 n)) (Ai hin_m (Ai (Er (SV.ls 12 n)) (Ai (qdg ((ev).set k m) (q+1:Nat) x hsb) (Ai (qbk ((ev).set k m) (q+1:Nat) hsb) (Ai (Er (SV.ls 12 n)) (Ai hin_x (Ai hin_m (Ai (qfy h2a) (Ai (qfy h2b) (Ai hwb (Ai (Er (SV.ls 12 n)) (Ai (Er (SV.ls 13 mm)) (Ai (qcv (wh) m.i.toNat (k:Int) hwbl) (Ai (qaJ (wh) m.i.toNat hwbl) (Ai (Er (SV.ls 12 n)) (Ai (Er (SV.ls 13 mm)) (Ai hwa (Ai (Er (SV.ls 12 n)) (Ai (Er (SV.ls 13 mm)) (Ai (qcv ((wh).set m.i.toNat (k:Int)) x.i.toNat ((q+1:Nat):Int) hwal) (Ai (qaJ ((wh).set m.i.toNat (k:Int)) x.i.toNat hwal) (Ai (Er (SV.ls 12 n)) (Ai (Er (SV.ls 13 mm)) tI))))))))))))))))))))))))))))))))))))))))))))))))) r
theorem qfK {u fr wh:List Int} {b:List Bool} {ev:List Ev} {x y m:Ev} {k q n mm:Nat} (hq:iV (IntKind.i64.wrap (2*(k:Int)))=iV (q:Int)) (hq1:iV (IntKind.i64.wrap ((q:Int)+1))=iV (((q+1:Nat):Int))) (hge:decide (((q+1:Nat):Int)≥(n:Int))=false) (hq2:iV (IntKind.i64.wrap (((q+1:Nat):Int)+1))=iV (((q+2:Nat):Int))) (h2:decide (((q+2:Nat):Int)<(n:Int))=true) (hin_y:0≤((q+2:Nat):Int)∧((q+2:Nat):Int)<(n:Int)) (he_y:ev[(q+2:Nat)]?=some y) (hin_m:0≤((q+1:Nat):Int)∧((q+1:Nat):Int)<(n:Int)) (he_m:ev[(q+1:Nat)]?=some m) (hl2:Pure Tryz.prog 131 #[qaa y,qaa m] (.bool false)) (hin_x:0≤(k:Int)∧(k:Int)<(n:Int)) (he_x:ev[k]?=some x) (hl:Pure Tryz.prog 131 #[qaa m,qaa x] (.bool false)):Rl 5 16 181 0 52 17 (qwj k) (qw3 b ev fr mm n u wh) (.ret) ([]) (qyn b ev fr mm n u wh):=
 RunsL.stop [] 300 [Re hq,Re hq1,.t false,.r (iV (((q+2:Nat):Int))),.t true,.r (iV (((q+2:Nat):Int))),.r (qaa y),.r (qaa m),Rf hl2,.r (qaa m),.r (qaa x),Rf hl2,.k] (fun h=>by cases h)
  (Ro (Ai hq (Ai hq1 (Ai hge (Ai hq2 (Ai h2 (Ai hq2 (Ai hin_y (Ai (qaC he_y) (Ai hin_m (Ai (qaC he_m) (Ai hl2 (Ai hin_m (Ai (qaC he_m) (Ai hin_x (Ai (qaC he_x) (Ai hl tI)))))))))))))))))
theorem qeW {u fr wh:List Int} {b:List Bool} {ev:List Ev} {x y m:Ev} {k q n mm:Nat} (hq:iV (IntKind.i64.wrap (2*(k:Int)))=iV (q:Int)) (hq1:iV (IntKind.i64.wrap ((q:Int)+1))=iV (((q+1:Nat):Int))) (hge:decide (((q+1:Nat):Int)≥(n:Int))=false) (hq2:iV (IntKind.i64.wrap (((q+1:Nat):Int)+1))=iV (((q+2:Nat):Int))) (h2:decide (((q+2:Nat):Int)<(n:Int))=true) (hin_y:0≤((q+2:Nat):Int)∧((q+2:Nat):Int)<(n:Int)) (he_y:ev[(q+2:Nat)]?=some y) (hin_m:0≤((q+1:Nat):Int)∧((q+1:Nat):Int)<(n:Int)) (he_m:ev[(q+1:Nat)]?=some m) (hl2:Pure Tryz.prog 131 #[qaa y,qaa m] (.bool true)) (hin_x:0≤(k:Int)∧(k:Int)<(n:Int)) (he_x:ev[k]?=some x) (hl:Pure Tryz.prog 131 #[qaa y,qaa x] (.bool true)) (hsa:k<(ev).length) (hsb:(q+2:Nat)<((ev).set k y).length) (h2a:(((ev).set k y).set (q+2:Nat) x)[k]?=some y) (h2b:(((ev).set k y).set (q+2:Nat) x)[(q+2:Nat)]?=some x) (hwb:0≤y.i∧y.i<(mm:Int)) (hwbl:y.i.toNat<(wh).length) (hwa:0≤x.i∧x.i<(mm:Int)) (hwal:x.i.toNat<((wh).set y.i.toNat (k:Int)).length) {e:Exit} {tm2:TmL} {hp2:HpL}
 (r:Rl 5 16 181 0 52 17 ([(1,.pv (iV ((q+2:Nat):Int))),(2,.pp 16 0)]) ([(16,0,.ls 9 u.length),(16,1,.ls 10 b.length),(16,2,.ls 11 fr.length),(16,3,.ls 12 n),(16,4,.ls 13 mm),(14,0,.ls 9 u.length),(14,1,.ls 10 b.length),(14,2,.ls 11 fr.length),(14,3,.ls 12 n),(14,4,.ls 13 mm),(8,0,.pv (.slice none 0 0)),(8,1,.pv (.slice none 0 0)),(8,2,.pv (.slice none 0 0)),(8,3,.pv (.slice none 0 0)),(8,4,.pv (.slice none 0 0)),(9,0,zrI u),(10,0,zrB b),(11,0,zrI fr),(12,0,.row 62 5 n (qat (((ev).set k y).set (q+2:Nat) x))),(13,0,.row 3 1 mm (ziV (((wh).set y.i.toNat (k:Int)).set x.i.toNat ((q+2:Nat):Int))))]) e tm2 hp2):Rl 5 16 181 0 52 17 (qwj k) (qw3 b ev fr mm n u wh) e tm2 hp2:=
 RunsL.next [] 300 [Re hq,Re hq1,.t false,.r (iV (((q+2:Nat):Int))),.t true,.r (iV (((q+2:Nat):Int))),.r (qaa y),.r (qaa m),Rf hl2,.r (iV (((q+2:Nat):Int))),.r (qaa y),.r (qaa x),Rf hl2,.k,.k,.gh [(17,3)],.r (qaa y),.r (qaa x),.w (qat ((ev).set k y)),.w (qat (((ev).set k y).set (q+2:Nat) x)),.gh [(17,3),(17,4)],.r (iV (y.i)),.r (iV (x.i)),.w (ziV ((wh).set y.i.toNat (k:Int))),.w (ziV (((wh).set y.i.toNat (k:Int)).set x.i.toNat ((q+2:Nat):Int)))]
  (Ro (Ai hq (Ai hq1 (Ai hge (Ai hq2 (Ai h2 (Ai hq2 (Ai hin_y (Ai (qaC he_y) (Ai hin_m (Ai (qaC he_m) (Ai hl2 (Ai hq2 (Ai hin_y (Ai (qaC he_y) (Ai hin_x (Ai (qaC he_x) (Ai hl (Ai hin_y (Ai hin_x (Ai (qaC he_y) (Ai (qaC he_x) (Ai hin_x (Ai (Er (SV.ls 12 n)) (Ai (qdg (ev) k y hsa) (Ai (qbk (ev) k hsa) (Ai (Er (SV.ls 12 n)) (Ai hin_y (Ai (Er (SV.ls 12 n)) (Ai (qdg ((ev).set k y) (q+2:Nat) x hsb) (Ai (qbk ((ev).set k y) (q+2:Nat) hsb) (Ai (Er (SV.ls 12 n)) (Ai hin_x (Ai hin_y (Ai (qfy h2a) (Ai (qfy h2b) (Ai hwb (Ai (Er (SV.ls 12 n)) (Ai (Er (SV.ls 13 mm)) (Ai (qcv (wh) y.i.toNat (k:Int) hwbl) (Ai (qaJ (wh) y.i.toNat hwbl) (Ai (Er (SV.ls 12 n)) (Ai (Er (SV.ls 13 mm)) (Ai hwa (Ai (Er (SV.ls 12 n)) (Ai (Er (SV.ls 13 mm)) (Ai (qcv ((wh).set y.i.toNat (k:Int)) x.i.toNat ((q+2:Nat):Int) hwal) (Ai (qaJ ((wh).set y.i.toNat (k:Int)) x.i.toNat hwal) (Ai (Er (SV.ls 12 n)) (Ai (Er (SV.ls 13 mm)) tI)))))))))))))))))))))))))))))))))))))))))))))))))) r
theorem qeY {u fr wh:List Int} {b:List Bool} {ev:List Ev} {x y m:Ev} {k q n mm:Nat} (hq:iV (IntKind.i64.wrap (2*(k:Int)))=iV (q:Int)) (hq1:iV (IntKind.i64.wrap ((q:Int)+1))=iV (((q+1:Nat):Int))) (hge:decide (((q+1:Nat):Int)≥(n:Int))=false) (hq2:iV (IntKind.i64.wrap (((q+1:Nat):Int)+1))=iV (((q+2:Nat):Int))) (h2:decide (((q+2:Nat):Int)<(n:Int))=true) (hin_y:0≤((q+2:Nat):Int)∧((q+2:Nat):Int)<(n:Int)) (he_y:ev[(q+2:Nat)]?=some y) (hin_m:0≤((q+1:Nat):Int)∧((q+1:Nat):Int)<(n:Int)) (he_m:ev[(q+1:Nat)]?=some m) (hl2:Pure Tryz.prog 131 #[qaa y,qaa m] (.bool true)) (hin_x:0≤(k:Int)∧(k:Int)<(n:Int)) (he_x:ev[k]?=some x) (hl:Pure Tryz.prog 131 #[qaa y,qaa x] (.bool false)):Rl 5 16 181 0 52 17 (qwj k) (qw3 b ev fr mm n u wh) (.ret) ([]) (qyn b ev fr mm n u wh):=
 RunsL.stop [] 300 [Re hq,Re hq1,.t false,.r (iV (((q+2:Nat):Int))),.t true,.r (iV (((q+2:Nat):Int))),.r (qaa y),.r (qaa m),Rf hl2,.r (iV (((q+2:Nat):Int))),.r (qaa y),.r (qaa x),Rf hl,.k] (fun h=>by cases h)
  (Ro (Ai hq (Ai hq1 (Ai hge (Ai hq2 (Ai h2 (Ai hq2 (Ai hin_y (Ai (qaC he_y) (Ai hin_m (Ai (qaC he_m) (Ai hl2 (Ai hq2 (Ai hin_y (Ai (qaC he_y) (Ai hin_x (Ai (qaC he_x) (Ai hl tI))))))))))))))))))
theorem qup {u fr wh wh3 wh4:List Int} {b:List Bool} {ev ev3 ev4:List Ev} {x:Ev} {tn td hi hw:Int} {k p:Nat} (htw:Fn 54 5 [agA u b fr ev wh] [(0,0,zrI u),(1,0,zrB b),(2,0,zrI fr),(3,0,qap ev),(4,0,zrI wh)] (.ag [.ls 5 u.length,.ls 6 b.length,.ls 7 fr.length,.ls 8 ev.length,.ls 9 wh.length]) 5 [(5,0,zrI u),(6,0,zrB b),(7,0,zrI fr),(8,0,qap ev),(9,0,zrI wh)]) (hiw:0≤hi∧hi<(wh.length:Int)) (hwk:wh[hi.toNat]?=some (k:Int)) (hik:0≤(k:Int)∧(k:Int)<(ev.length:Int)) (hx:ev[k]?=some x) (hset:k<ev.length) (r0:Rl 5 15 178 0 32 16 (qDi k) ([(15,0,.ls 9 u.length),(15,1,.ls 10 b.length),(15,2,.ls 11 fr.length),(15,3,.ls 12 ev.length),(15,4,.ls 13 wh.length),(14,0,.ls 9 u.length),(14,1,.ls 10 b.length),(14,2,.ls 11 fr.length),(14,3,.ls 12 ev.length),(14,4,.ls 13 wh.length),(8,0,.pv (.slice none 0 0)),(8,1,.pv (.slice none 0 0)),(8,2,.pv (.slice none 0 0)),(8,3,.pv (.slice none 0 0)),(8,4,.pv (.slice none 0 0)),(9,0,zrI u),(10,0,zrB b),(11,0,zrI fr),(12,0,.row 62 5 ev.length (qat (ev.set k ⟨tn,td,x.k,x.i,x.w⟩))),(13,0,.row 3 1 wh.length (ziV (wh)))]) (.exit 0) ([(1,.pv (iV (p:Int)))]) ([(14,0,.ls 9 u.length),(14,1,.ls 10 b.length),(14,2,.ls 11 fr.length),(14,3,.ls 12 ev.length),(14,4,.ls 13 wh.length),(8,0,.pv (.slice none 0 0)),(8,1,.pv (.slice none 0 0)),(8,2,.pv (.slice none 0 0)),(8,3,.pv (.slice none 0 0)),(8,4,.pv (.slice none 0 0)),(9,0,zrI u),(10,0,zrB b),(11,0,zrI fr),(12,0,.row 62 5 ev.length (qat (ev3))),(13,0,.row 3 1 wh.length (ziV (wh3)))])) (r1:Rl 5 16 181 0 52 17 ([(1,.pv (iV (p:Int))),(2,.pp 16 0)]) ([(16,0,.ls 9 u.length),(16,1,.ls 10 b.length),(16,2,.ls 11 fr.length),(16,3,.ls 12 ev.length),(16,4,.ls 13 wh.length),(14,0,.ls 9 u.length),(14,1,.ls 10 b.length),(14,2,.ls 11 fr.length),(14,3,.ls 12 ev.length),(14,4,.ls 13 wh.length),(8,0,.pv (.slice none 0 0)),(8,1,.pv (.slice none 0 0)),(8,2,.pv (.slice none 0 0)),(8,3,.pv (.slice none 0 0)),(8,4,.pv (.slice none 0 0)),(9,0,zrI u),(10,0,zrB b),(11,0,zrI fr),(12,0,.row 62 5 ev.length (qat (ev3))),(13,0,.row 3 1 wh.length (ziV (wh3)))]) (.ret) ([]) ([(14,0,.ls 9 u.length),(14,1,.ls 10 b.length),(14,2,.ls 11 fr.length),(14,3,.ls 12 ev.length),(14,4,.ls 13 wh.length),(8,0,.pv (.slice none 0 0)),(8,1,.pv (.slice none 0 0)),(8,2,.pv (.slice none 0 0)),(8,3,.pv (.slice none 0 0)),(8,4,.pv (.slice none 0 0)),(9,0,zrI u),(10,0,zrB b),(11,0,zrI fr),(12,0,.row 62 5 ev.length (qat (ev4))),(13,0,.row 3 1 wh.length (ziV (wh4)))])) :
 Fn 133 5 [agA u b fr ev wh,.pv (qaG hi hw),.pv (qab tn td)] [(0,0,zrI u),(1,0,zrB b),(2,0,zrI fr),(3,0,qap ev),(4,0,zrI wh)] (.ag [.ls 5 u.length,.ls 6 b.length,.ls 7 fr.length,.ls 8 ev.length,.ls 9 wh.length]) 5 [(5,0,zrI u),(6,0,zrB b),(7,0,zrI fr),(8,0,.row 62 5 ev.length (qat (ev4))),(9,0,.row 3 1 wh.length (ziV (wh4)))]:=
 Fz [(5,9),(6,10),(7,11),(8,12),(9,13)] [Cf htw [0,1,2,3,4],.r (iV (k:Int)),.w (qat (ev.set k ⟨tn,td,x.k,x.i,x.w⟩)),.gh [(14,0),(14,1),(14,2),(14,3),(14,4)],.k,Lf r0,.k,Lf r1]
  (qaE (qaK [(5,9),(6,10),(7,11),(8,12),(9,13)]) [(5,0,zrI u),(6,0,zrB b),(7,0,zrI fr),(8,0,.row 62 5 ev.length (qat (ev4))),(9,0,.row 3 1 wh.length (ziV (wh4)))]) (Co htw [0,1,2,3,4] 9 (Ai hiw (Ai (qcW hwk) (Ai hik (Ai (qDR ev k x tn td hx) (Ai (qtn ev k hset) (Ai (Er (SV.ls 9 u.length)) (Ai (Er (SV.ls 10 b.length)) (Ai (Er (SV.ls 11 fr.length)) (Ai (Er (SV.ls 12 ev.length)) (Ai (Er (SV.ls 13 wh.length)) (Lo r0 [] (Ai (Er (SV.ls 9 u.length)) (Ai (Er (SV.ls 10 b.length)) (Ai (Er (SV.ls 11 fr.length)) (Ai (Er (SV.ls 12 ev.length)) (Ai (Er (SV.ls 13 wh.length)) (Lo r1 [] (Ai (Er (SV.ls 9 u.length)) (Ai (Er (SV.ls 10 b.length)) (Ai (Er (SV.ls 11 fr.length)) (Ai (Er (SV.ls 12 ev.length)) (Ai (Er (SV.ls 13 wh.length)) tI)))))))))))))))))))))))
end Go.Proofs.YtkjaanhddkkodaaGreat

namespace Go.Proofs.YtkjaanhddkkodaaGreat
set_option maxRecDepth 100000
open Go.RowKit
abbrev qD9 (b2:List Bool) (ev:List Ev) (f2:List Int) (hi:Int) (hw:Int) (mm:Nat) (n:Nat) (u2:List Int) (wh:List Int):HpL:=[(22,0,.ls 15 u2.length),(22,1,.ls 16 b2.length),(22,2,.ls 17 f2.length),(22,3,.ls 21 n),(22,4,.ls 13 mm),(14,0,.ls 15 u2.length),(14,1,.ls 16 b2.length),(14,2,.ls 17 f2.length),(14,3,.ls 21 n),(14,4,.ls 13 mm),(7,0,.pv (.slice none 0 0)),(7,1,.pv (.slice none 0 0)),(7,2,.pv (.slice none 0 0)),(7,3,.pv (.slice none 0 0)),(7,4,.pv (.slice none 0 0)),(8,0,.pv (iV 0)),(8,1,.pv (iV 0)),(19,0,.pv (iV hi)),(19,1,.pv (iV hw)),(15,0,zrI u2),(16,0,zrB b2),(17,0,zrI f2),(21,0,.row 62 5 n (qat (ev))),(13,0,.row 3 1 mm (ziV (wh)))]
theorem qmg {wh u2 f2:List Int} {b2:List Bool} {ev:List Ev} {x y:Ev} {hi hw:Int} {k j q n mm:Nat} (n2:¬ (2:Int)=0) (hin_x:0≤(k:Int)∧(k:Int)<(n:Int)) (he_x:ev[k]?=some x) (hin_y:0≤(j:Int)∧(j:Int)<(n:Int)) (he_y:ev[j]?=some y) (h0:decide ((k:Int)>0)=true) (hm1:iV (IntKind.i64.wrap ((k:Int)-1))=iV (q:Int)) (hm2:iV (IntKind.i64.wrap (Int.tdiv (q:Int) 2))=iV (j:Int)) (hl:Pure Tryz.prog 131 #[qaa x,qaa y] (.bool true)) (hsa:k<(ev).length) (hsb:j<((ev).set k y).length) (h2a:(((ev).set k y).set j x)[k]?=some y) (h2b:(((ev).set k y).set j x)[j]?=some x) (hwb:0≤y.i∧y.i<(mm:Int)) (hwbl:y.i.toNat<(wh).length) (hwa:0≤x.i∧x.i<(mm:Int)) (hwal:x.i.toNat<((wh).set y.i.toNat (k:Int)).length) {e:Exit} {tm2:TmL} {hp2:HpL}
 (r:Rl 5 22 178 0 32 23 ([(1,.pv (iV (j:Int))),(2,.pp 22 0)]) ([(22,0,.ls 15 u2.length),(22,1,.ls 16 b2.length),(22,2,.ls 17 f2.length),(22,3,.ls 21 n),(22,4,.ls 13 mm),(14,0,.ls 15 u2.length),(14,1,.ls 16 b2.length),(14,2,.ls 17 f2.length),(14,3,.ls 21 n),(14,4,.ls 13 mm),(7,0,.pv (.slice none 0 0)),(7,1,.pv (.slice none 0 0)),(7,2,.pv (.slice none 0 0)),(7,3,.pv (.slice none 0 0)),(7,4,.pv (.slice none 0 0)),(8,0,.pv (iV 0)),(8,1,.pv (iV 0)),(19,0,.pv (iV hi)),(19,1,.pv (iV hw)),(15,0,zrI u2),(16,0,zrB b2),(17,0,zrI f2),(21,0,.row 62 5 n (qat (((ev).set k y).set j x))),(13,0,.row 3 1 mm (ziV (((wh).set y.i.toNat (k:Int)).set x.i.toNat (j:Int))))]) e tm2 hp2):Rl 5 22 178 0 32 23 ([(1,.pv (iV (k:Int))),(2,.pp 22 0)]) (qD9 b2 ev f2 hi hw mm n u2 wh) e tm2 hp2:=
 RunsL.next [] 300 [.t true,.r (qaa x),Re hm1,Re hm2,.r (qaa y),Rf hl,Re hm1,Re hm2,.k,.gh [(23,3)],.r (qaa y),.r (qaa x),.w (qat ((ev).set k y)),.w (qat (((ev).set k y).set j x)),.gh [(23,3),(23,4)],.r (iV (y.i)),.r (iV (x.i)),.w (ziV ((wh).set y.i.toNat (k:Int))),.w (ziV (((wh).set y.i.toNat (k:Int)).set x.i.toNat (j:Int))),Re hm1,Re hm2]
  (Ro (Ai h0 (Ai hin_x (Ai (qaC he_x) (Ai hm1 (Ai n2 (Ai hm2 (Ai hin_y (Ai (qaC he_y) (Ai hl (Ai hm1 (Ai n2 (Ai hm2 (Ai hin_y (Ai hin_x (Ai (qaC he_y) (Ai (qaC he_x) (Ai hin_x (Ai (Er (SV.ls 21 n)) (Ai (qdg (ev) k y hsa) (Ai (qbk (ev) k hsa) (Ai (Er (SV.ls 21 n)) (Ai hin_y (Ai (Er (SV.ls 21 n)) (Ai (qdg ((ev).set k y) j x hsb) (Ai (qbk ((ev).set k y) j hsb) (Ai (Er (SV.ls 21 n)) (Ai hin_x (Ai hin_y (Ai (qfy h2a) (Ai (qfy h2b) (Ai hwb (Ai (Er (SV.ls 21 n)) (Ai (Er (SV.ls 13 mm)) (Ai (qcv (wh) y.i.toNat (k:Int) hwbl) (Ai (qaJ (wh) y.i.toNat hwbl) (Ai (Er (SV.ls 21 n)) (Ai (Er (SV.ls 13 mm)) (Ai hwa (Ai (Er (SV.ls 21 n)) (Ai (Er (SV.ls 13 mm)) (Ai (qcv ((wh).set y.i.toNat (k:Int)) x.i.toNat (j:Int) hwal) (Ai (qaJ ((wh).set y.i.toNat (k:Int)) x.i.toNat hwal) (Ai (Er (SV.ls 21 n)) (Ai (Er (SV.ls 13 mm)) (Ai hm1 (Ai n2 (Ai hm2 tI)))))))))))))))))))))))))))))))))))))))))))))))) r
abbrev qHa (b2:List Bool) (ev:List Ev) (f2:List Int) (hi:Int) (hw:Int) (mm:Nat) (n:Nat) (u2:List Int) (wh:List Int):HpL:=[(14,0,.ls 15 u2.length),(14,1,.ls 16 b2.length),(14,2,.ls 17 f2.length),(14,3,.ls 21 n),(14,4,.ls 13 mm),(7,0,.pv (.slice none 0 0)),(7,1,.pv (.slice none 0 0)),(7,2,.pv (.slice none 0 0)),(7,3,.pv (.slice none 0 0)),(7,4,.pv (.slice none 0 0)),(8,0,.pv (iV 0)),(8,1,.pv (iV 0)),(19,0,.pv (iV hi)),(19,1,.pv (iV hw)),(15,0,zrI u2),(16,0,zrB b2),(17,0,zrI f2),(21,0,.row 62 5 n (qat (ev))),(13,0,.row 3 1 mm (ziV (wh)))]
theorem qle {wh u2 f2:List Int} {b2:List Bool} {ev:List Ev} {x y:Ev} {hi hw:Int} {k j q n mm:Nat} (n2:¬ (2:Int)=0) (hin_x:0≤(k:Int)∧(k:Int)<(n:Int)) (he_x:ev[k]?=some x) (hin_y:0≤(j:Int)∧(j:Int)<(n:Int)) (he_y:ev[j]?=some y) (h0:decide ((k:Int)>0)=true) (hm1:iV (IntKind.i64.wrap ((k:Int)-1))=iV (q:Int)) (hm2:iV (IntKind.i64.wrap (Int.tdiv (q:Int) 2))=iV (j:Int)) (hl:Pure Tryz.prog 131 #[qaa x,qaa y] (.bool false)):Rl 5 22 178 0 32 23 ([(1,.pv (iV (k:Int))),(2,.pp 22 0)]) (qD9 b2 ev f2 hi hw mm n u2 wh) (.exit 0) ([(1,.pv (iV (k:Int)))]) (qHa b2 ev f2 hi hw mm n u2 wh):=
 RunsL.stop [] 300 [.t true,.r (qaa x),Re hm1,Re hm2,.r (qaa y),Rf hl] (fun h=>by cases h)
  (Ro (Ai h0 (Ai hin_x (Ai (qaC he_x) (Ai hm1 (Ai n2 (Ai hm2 (Ai hin_y (Ai (qaC he_y) (Ai hl tI))))))))))
theorem qlf {wh u2 f2:List Int} {b2:List Bool} {ev:List Ev} {hi hw:Int} {k n mm:Nat} (h0:decide ((k:Int)>0)=false):Rl 5 22 178 0 32 23 ([(1,.pv (iV (k:Int))),(2,.pp 22 0)]) (qD9 b2 ev f2 hi hw mm n u2 wh) (.exit 0) ([(1,.pv (iV (k:Int)))]) (qHa b2 ev f2 hi hw mm n u2 wh):=
 RunsL.stop [] 300 [.t false] (fun h=>by cases h)
  (Ro (Ai h0 tI))
theorem qpZ (g:List Ev) (x:Ev):some (SV.row 62 5 (g.length+1) (qat g++ecV x))=some (SV.row 62 5 (g.length+1) (qat (g++[x]))):=by rw[qcD];rfl
theorem qqX {u fr wh u2 f2 wh3:List Int} {b b2:List Bool} {ev ev3:List Ev} {z tn td hi hw:Int} {p la:Nat} (htw:Fn 54 5 [agA u b fr ev wh] [(0,0,zrI u),(1,0,zrB b),(2,0,zrI fr),(3,0,qap ev),(4,0,zrI wh)] (.ag [.ls 5 u.length,.ls 6 b.length,.ls 7 fr.length,.ls 8 ev.length,.ls 9 wh.length]) 5 [(5,0,zrI u),(6,0,zrB b),(7,0,zrI fr),(8,0,qap ev),(9,0,zrI wh)]) (htk:Fn 177 3 [.ag [.ls 0 u.length,.ls 1 b.length,.ls 2 fr.length]] [(0,0,zrI u),(1,0,zrB b),(2,0,zrI fr)] (.tu [.ag [.ls 3 u2.length,.ls 4 b2.length,.ls 5 f2.length],.one (.pv (qaG hi hw))]) 3 [(3,0,zrI u2),(4,0,zrB b2),(5,0,zrI f2)]) (hl:ev.length+1≤1000000) (hla:iV (IntKind.i64.wrap (((ev.length+1:Nat):Int)-1))=iV (la:Int)) (hiw:0≤hi∧hi<(wh.length:Int)) (hws:hi.toNat<wh.length) (r0:Rl 5 22 178 0 32 23 ([(1,.pv (iV (la:Int))),(2,.pp 22 0)]) ([(22,0,.ls 15 u2.length),(22,1,.ls 16 b2.length),(22,2,.ls 17 f2.length),(22,3,.ls 21 (ev.length+1)),(22,4,.ls 13 wh.length),(14,0,.ls 15 u2.length),(14,1,.ls 16 b2.length),(14,2,.ls 17 f2.length),(14,3,.ls 21 (ev.length+1)),(14,4,.ls 13 wh.length),(7,0,.pv (.slice none 0 0)),(7,1,.pv (.slice none 0 0)),(7,2,.pv (.slice none 0 0)),(7,3,.pv (.slice none 0 0)),(7,4,.pv (.slice none 0 0)),(8,0,.pv (iV 0)),(8,1,.pv (iV 0)),(19,0,.pv (iV hi)),(19,1,.pv (iV hw)),(15,0,zrI u2),(16,0,zrB b2),(17,0,zrI f2),(21,0,.row 62 5 (ev.length+1) (qat (ev++[⟨tn,td,z,hi,hw⟩]))),(13,0,.row 3 1 wh.length (ziV (wh.set hi.toNat (la:Int))))]) (.exit 0) ([(1,.pv (iV (p:Int)))]) ([(14,0,.ls 15 u2.length),(14,1,.ls 16 b2.length),(14,2,.ls 17 f2.length),(14,3,.ls 21 (ev.length+1)),(14,4,.ls 13 wh.length),(7,0,.pv (.slice none 0 0)),(7,1,.pv (.slice none 0 0)),(7,2,.pv (.slice none 0 0)),(7,3,.pv (.slice none 0 0)),(7,4,.pv (.slice none 0 0)),(8,0,.pv (iV 0)),(8,1,.pv (iV 0)),(19,0,.pv (iV hi)),(19,1,.pv (iV hw)),(15,0,zrI u2),(16,0,zrB b2),(17,0,zrI f2),(21,0,.row 62 5 (ev.length+1) (qat (ev3))),(13,0,.row 3 1 wh.length (ziV (wh3)))])) :
 Fn 124 5 [agA u b fr ev wh,.pv (qab tn td),.pv (iV (z))] [(0,0,zrI u),(1,0,zrB b),(2,0,zrI fr),(3,0,qap ev),(4,0,zrI wh)] (.tu [.ag [.ls 5 u2.length,.ls 6 b2.length,.ls 7 f2.length,.ls 8 (ev.length+1),.ls 9 wh.length],.one (.pv (qaG hi hw))]) 5 [(5,0,zrI u2),(6,0,zrB b2),(7,0,zrI f2),(8,0,.row 62 5 (ev.length+1) (qat (ev3))),(9,0,.row 3 1 wh.length (ziV (wh3)))]:=
 Fz [(5,15),(6,16),(7,17),(8,21),(9,13)] [Cf htw [0,1,2,3,4],Cf htk [9,10,11],.r (iV (la:Int)),.w (ziV (wh.set hi.toNat (la:Int))),.r (iV (la:Int)),.k,Lf r0]
  (qaE (qaK [(5,15),(6,16),(7,17),(8,21),(9,13)]) [(5,0,zrI u2),(6,0,zrB b2),(7,0,zrI f2),(8,0,.row 62 5 (ev.length+1) (qat (ev3))),(9,0,.row 3 1 wh.length (ziV (wh3)))]) (Co htw [0,1,2,3,4] 9 (Co htk [9,10,11] 15 (Ai hl (Ai hla (Ai hiw (Ai (qcv wh hi.toNat (la:Int) hws) (Ai (qaJ wh hi.toNat hws) (Ai hla (Ai (Lt r0 []) (Ai (Ai (Er (SV.ls 15 u2.length)) (Ai (Er (SV.ls 16 b2.length)) (Ai (Er (SV.ls 17 f2.length)) (Ai (Er (SV.ls 21 (ev.length+1))) (Ai (Er (SV.ls 13 wh.length)) (Ai (Er (SV.ls 15 u2.length)) (Ai (Er (SV.ls 16 b2.length)) (Ai (Er (SV.ls 17 f2.length)) (Ai (Er (SV.ls 21 (ev.length+1))) (Ai (Er (SV.ls 13 wh.length)) (Ai (Er (SV.pv (.slice none 0 0))) (Ai (Er (SV.pv (.slice none 0 0))) (Ai (Er (SV.pv (.slice none 0 0))) (Ai (Er (SV.pv (.slice none 0 0))) (Ai (Er (SV.pv (.slice none 0 0))) (Ai (Er (SV.pv (iV 0))) (Ai (Er (SV.pv (iV 0))) (Ai (Er (SV.pv (iV hi))) (Ai (Er (SV.pv (iV hw))) (Ai (Er (zrI u2)) (Ai (Er (zrB b2)) (Ai (Er (zrI f2)) (Ai (qpZ ev ⟨tn,td,z,hi,hw⟩) (Ai (Er (SV.row 3 1 wh.length (ziV (wh.set hi.toNat (la:Int))))) tI)))))))))))))))))))))))) (Ai r0 tI)))))))))))
end Go.Proofs.YtkjaanhddkkodaaGreat

namespace Go.Proofs.YtkjaanhddkkodaaGreat
set_option maxRecDepth 100000
open Go.RowKit
abbrev qFQ (b2:List Bool) (ev:List Ev) (f2:List Int) (mm:Nat) (n:Nat) (u2:List Int) (wh:List Int):HpL:=[(19,0,.ls 16 u2.length),(19,1,.ls 17 b2.length),(19,2,.ls 18 f2.length),(19,3,.ls 15 n),(19,4,.ls 12 mm),(13,0,.ls 16 u2.length),(13,1,.ls 17 b2.length),(13,2,.ls 18 f2.length),(13,3,.ls 15 n),(13,4,.ls 12 mm),(7,0,.pv (.slice none 0 0)),(7,1,.pv (.slice none 0 0)),(7,2,.pv (.slice none 0 0)),(7,3,.pv (.slice none 0 0)),(7,4,.pv (.slice none 0 0)),(16,0,zrI u2),(17,0,zrB b2),(18,0,zrI f2),(15,0,.row 62 5 n (qat (ev))),(12,0,.row 3 1 mm (ziV (wh)))]
abbrev qC4 (k:Nat):TmL:=[(1,.pv (iV (k:Int))),(2,.pp 19 0)]
theorem qjV {wh u2 f2:List Int} {b2:List Bool} {ev:List Ev} {x y:Ev} {k j q n mm:Nat} (n2:¬ (2:Int)=0) (hin_x:0≤(k:Int)∧(k:Int)<(n:Int)) (he_x:ev[k]?=some x) (hin_y:0≤(j:Int)∧(j:Int)<(n:Int)) (he_y:ev[j]?=some y) (h0:decide ((k:Int)>0)=true) (hm1:iV (IntKind.i64.wrap ((k:Int)-1))=iV (q:Int)) (hm2:iV (IntKind.i64.wrap (Int.tdiv (q:Int) 2))=iV (j:Int)) (hl:Pure Tryz.prog 131 #[qaa x,qaa y] (.bool true)) (hsa:k<(ev).length) (hsb:j<((ev).set k y).length) (h2a:(((ev).set k y).set j x)[k]?=some y) (h2b:(((ev).set k y).set j x)[j]?=some x) (hwb:0≤y.i∧y.i<(mm:Int)) (hwbl:y.i.toNat<(wh).length) (hwa:0≤x.i∧x.i<(mm:Int)) (hwal:x.i.toNat<((wh).set y.i.toNat (k:Int)).length) {e:Exit} {tm2:TmL} {hp2:HpL}
 (r:Rl 5 19 178 0 32 20 ([(1,.pv (iV (j:Int))),(2,.pp 19 0)]) ([(19,0,.ls 16 u2.length),(19,1,.ls 17 b2.length),(19,2,.ls 18 f2.length),(19,3,.ls 15 n),(19,4,.ls 12 mm),(13,0,.ls 16 u2.length),(13,1,.ls 17 b2.length),(13,2,.ls 18 f2.length),(13,3,.ls 15 n),(13,4,.ls 12 mm),(7,0,.pv (.slice none 0 0)),(7,1,.pv (.slice none 0 0)),(7,2,.pv (.slice none 0 0)),(7,3,.pv (.slice none 0 0)),(7,4,.pv (.slice none 0 0)),(16,0,zrI u2),(17,0,zrB b2),(18,0,zrI f2),(15,0,.row 62 5 n (qat (((ev).set k y).set j x))),(12,0,.row 3 1 mm (ziV (((wh).set y.i.toNat (k:Int)).set x.i.toNat (j:Int))))]) e tm2 hp2):Rl 5 19 178 0 32 20 (qC4 k) (qFQ b2 ev f2 mm n u2 wh) e tm2 hp2:=
 RunsL.next [] 300 [.t true,.r (qaa x),Re hm1,Re hm2,.r (qaa y),Rf hl,Re hm1,Re hm2,.k,.gh [(20,3)],.r (qaa y),.r (qaa x),.w (qat ((ev).set k y)),.w (qat (((ev).set k y).set j x)),.gh [(20,3),(20,4)],.r (iV (y.i)),.r (iV (x.i)),.w (ziV ((wh).set y.i.toNat (k:Int))),.w (ziV (((wh).set y.i.toNat (k:Int)).set x.i.toNat (j:Int))),Re hm1,Re hm2]
  (Ro (Ai h0 (Ai hin_x (Ai (qaC he_x) (Ai hm1 (Ai n2 (Ai hm2 (Ai hin_y (Ai (qaC he_y) (Ai hl (Ai hm1 (Ai n2 (Ai hm2 (Ai hin_y (Ai hin_x (Ai (qaC he_y) (Ai (qaC he_x) (Ai hin_x (Ai (Er (SV.ls 15 n)) (Ai (qdg (ev) k y hsa) (Ai (qbk (ev) k hsa) (Ai (Er (SV.ls 15 n)) (Ai hin_y (Ai (Er (SV.ls 15 n)) (Ai (qdg ((ev).set k y) j x hsb) (Ai (qbk ((ev).set k y) j hsb) (Ai (Er (SV.ls 15 n)) (Ai hin_x (Ai hin_y (Ai (qfy h2a) (Ai (qfy h2b) (Ai hwb (Ai (Er (SV.ls 15 n)) (Ai (Er (SV.ls 12 mm)) (Ai (qcv (wh) y.i.toNat (k:Int) hwbl) (Ai (qaJ (wh) y.i.toNat hwbl) (Ai (Er (SV.ls 15 n)) (Ai (Er (SV.ls 12 mm)) (Ai hwa (Ai (Er (SV.ls 15 n)) (Ai (Er (SV.ls 12 mm)) (Ai (qcv ((wh).set y.i.toNat (k:Int)) x.i.toNat (j:Int) hwal) (Ai (qaJ ((wh).set y.i.toNat (k:Int)) x.i.toNat hwal) (Ai (Er (SV.ls 15 n)) (Ai (Er (SV.ls 12 mm)) (Ai hm1 (Ai n2 (Ai hm2 tI)))))))))))))))))))))))))))))))))))))))))))))))) r
abbrev qyx (b2:List Bool) (ev:List Ev) (f2:List Int) (mm:Nat) (n:Nat) (u2:List Int) (wh:List Int):HpL:=[(13,0,.ls 16 u2.length),(13,1,.ls 17 b2.length),(13,2,.ls 18 f2.length),(13,3,.ls 15 n),(13,4,.ls 12 mm),(7,0,.pv (.slice none 0 0)),(7,1,.pv (.slice none 0 0)),(7,2,.pv (.slice none 0 0)),(7,3,.pv (.slice none 0 0)),(7,4,.pv (.slice none 0 0)),(16,0,zrI u2),(17,0,zrB b2),(18,0,zrI f2),(15,0,.row 62 5 n (qat (ev))),(12,0,.row 3 1 mm (ziV (wh)))]
theorem qj1 {wh u2 f2:List Int} {b2:List Bool} {ev:List Ev} {x y:Ev} {k j q n mm:Nat} (n2:¬ (2:Int)=0) (hin_x:0≤(k:Int)∧(k:Int)<(n:Int)) (he_x:ev[k]?=some x) (hin_y:0≤(j:Int)∧(j:Int)<(n:Int)) (he_y:ev[j]?=some y) (h0:decide ((k:Int)>0)=true) (hm1:iV (IntKind.i64.wrap ((k:Int)-1))=iV (q:Int)) (hm2:iV (IntKind.i64.wrap (Int.tdiv (q:Int) 2))=iV (j:Int)) (hl:Pure Tryz.prog 131 #[qaa x,qaa y] (.bool false)):Rl 5 19 178 0 32 20 (qC4 k) (qFQ b2 ev f2 mm n u2 wh) (.exit 0) ([(1,.pv (iV (k:Int)))]) (qyx b2 ev f2 mm n u2 wh):=
 RunsL.stop [] 300 [.t true,.r (qaa x),Re hm1,Re hm2,.r (qaa y),Rf hl] (fun h=>by cases h)
  (Ro (Ai h0 (Ai hin_x (Ai (qaC he_x) (Ai hm1 (Ai n2 (Ai hm2 (Ai hin_y (Ai (qaC he_y) (Ai hl tI))))))))))
theorem qjh {wh u2 f2:List Int} {b2:List Bool} {ev:List Ev} {k n mm:Nat} (h0:decide ((k:Int)>0)=false):Rl 5 19 178 0 32 20 (qC4 k) (qFQ b2 ev f2 mm n u2 wh) (.exit 0) ([(1,.pv (iV (k:Int)))]) (qyx b2 ev f2 mm n u2 wh):=
 RunsL.stop [] 300 [.t false] (fun h=>by cases h)
  (Ro (Ai h0 tI))
abbrev qw6 (b2:List Bool) (ev:List Ev) (f2:List Int) (mm:Nat) (n:Nat) (u2:List Int) (wh:List Int):HpL:=[(20,0,.ls 16 u2.length),(20,1,.ls 17 b2.length),(20,2,.ls 18 f2.length),(20,3,.ls 15 n),(20,4,.ls 12 mm),(13,0,.ls 16 u2.length),(13,1,.ls 17 b2.length),(13,2,.ls 18 f2.length),(13,3,.ls 15 n),(13,4,.ls 12 mm),(7,0,.pv (.slice none 0 0)),(7,1,.pv (.slice none 0 0)),(7,2,.pv (.slice none 0 0)),(7,3,.pv (.slice none 0 0)),(7,4,.pv (.slice none 0 0)),(16,0,zrI u2),(17,0,zrB b2),(18,0,zrI f2),(15,0,.row 62 5 n (qat (ev))),(12,0,.row 3 1 mm (ziV (wh)))]
abbrev qtZ (k:Nat):TmL:=[(1,.pv (iV (k:Int))),(2,.pp 20 0)]
theorem qjJ {wh u2 f2:List Int} {b2:List Bool} {ev:List Ev} {k q n mm:Nat} (hq:iV (IntKind.i64.wrap (2*(k:Int)))=iV (q:Int)) (hq1:iV (IntKind.i64.wrap ((q:Int)+1))=iV (((q+1:Nat):Int))) (hge:decide (((q+1:Nat):Int)≥(n:Int))=true):Rl 5 20 181 0 52 21 (qtZ k) (qw6 b2 ev f2 mm n u2 wh) (.ret) ([]) (qyx b2 ev f2 mm n u2 wh):=
 RunsL.stop [] 300 [Re hq,Re hq1,.t true] (fun h=>by cases h)
  (Ro (Ai hq (Ai hq1 (Ai hge tI))))
abbrev qGP (b2:List Bool) (ev:List Ev) (f2:List Int) (k:Nat) (m:Ev) (mm:Nat) (n:Nat) (q:Nat) (u2:List Int) (wh:List Int) (x:Ev):HpL:=[(20,0,.ls 16 u2.length),(20,1,.ls 17 b2.length),(20,2,.ls 18 f2.length),(20,3,.ls 15 n),(20,4,.ls 12 mm),(13,0,.ls 16 u2.length),(13,1,.ls 17 b2.length),(13,2,.ls 18 f2.length),(13,3,.ls 15 n),(13,4,.ls 12 mm),(7,0,.pv (.slice none 0 0)),(7,1,.pv (.slice none 0 0)),(7,2,.pv (.slice none 0 0)),(7,3,.pv (.slice none 0 0)),(7,4,.pv (.slice none 0 0)),(16,0,zrI u2),(17,0,zrB b2),(18,0,zrI f2),(15,0,.row 62 5 n (qat (((ev).set k m).set (q+1:Nat) x))),(12,0,.row 3 1 mm (ziV (((wh).set m.i.toNat (k:Int)).set x.i.toNat ((q+1:Nat):Int))))]
theorem qfg {wh u2 f2:List Int} {b2:List Bool} {ev:List Ev} {x m:Ev} {k q n mm:Nat} (hq:iV (IntKind.i64.wrap (2*(k:Int)))=iV (q:Int)) (hq1:iV (IntKind.i64.wrap ((q:Int)+1))=iV (((q+1:Nat):Int))) (hge:decide (((q+1:Nat):Int)≥(n:Int))=false) (hq2:iV (IntKind.i64.wrap (((q+1:Nat):Int)+1))=iV (((q+2:Nat):Int))) (h2:decide (((q+2:Nat):Int)<(n:Int))=false) (hin_m:0≤((q+1:Nat):Int)∧((q+1:Nat):Int)<(n:Int)) (he_m:ev[(q+1:Nat)]?=some m) (hin_x:0≤(k:Int)∧(k:Int)<(n:Int)) (he_x:ev[k]?=some x) (hl:Pure Tryz.prog 131 #[qaa m,qaa x] (.bool true)) (hsa:k<(ev).length) (hsb:(q+1:Nat)<((ev).set k m).length) (h2a:(((ev).set k m).set (q+1:Nat) x)[k]?=some m) (h2b:(((ev).set k m).set (q+1:Nat) x)[(q+1:Nat)]?=some x) (hwb:0≤m.i∧m.i<(mm:Int)) (hwbl:m.i.toNat<(wh).length) (hwa:0≤x.i∧x.i<(mm:Int)) (hwal:x.i.toNat<((wh).set m.i.toNat (k:Int)).length) {e:Exit} {tm2:TmL} {hp2:HpL}
 (r:Rl 5 20 181 0 52 21 ([(1,.pv (iV ((q+1:Nat):Int))),(2,.pp 20 0)]) (qGP b2 ev f2 k m mm n q u2 wh x) e tm2 hp2):Rl 5 20 181 0 52 21 (qtZ k) (qw6 b2 ev f2 mm n u2 wh) e tm2 hp2:=
 RunsL.next [] 300 [Re hq,Re hq1,.t false,.r (iV (((q+2:Nat):Int))),.t false,.r (qaa m),.r (qaa x),Rf hl,.k,.k,.gh [(21,3)],.r (qaa m),.r (qaa x),.w (qat ((ev).set k m)),.w (qat (((ev).set k m).set (q+1:Nat) x)),.gh [(21,3),(21,4)],.r (iV (m.i)),.r (iV (x.i)),.w (ziV ((wh).set m.i.toNat (k:Int))),.w (ziV (((wh).set m.i.toNat (k:Int)).set x.i.toNat ((q+1:Nat):Int)))]
  (Ro (Ai hq (Ai hq1 (Ai hge (Ai hq2 (Ai h2 (Ai hin_m (Ai (qaC he_m) (Ai hin_x (Ai (qaC he_x) (Ai hl (Ai hin_m (Ai hin_x (Ai (qaC he_m) (Ai (qaC he_x) (Ai hin_x (Ai (Er (SV.ls 15 n)) (Ai (qdg (ev) k m hsa) (Ai (qbk (ev) k hsa) (Ai (Er (SV.ls 15 n)) (Ai hin_m (Ai (Er (SV.ls 15 n)) (Ai (qdg ((ev).set k m) (q+1:Nat) x hsb) (Ai (qbk ((ev).set k m) (q+1:Nat) hsb) (Ai (Er (SV.ls 15 n)) (Ai hin_x (Ai hin_m (Ai (qfy h2a) (Ai (qfy h2b) (Ai hwb (Ai (Er (SV.ls 15 n)) (Ai (Er (SV.ls 12 mm)) (Ai (qcv (wh) m.i.toNat (k:Int) hwbl) (Ai (qaJ (wh) m.i.toNat hwbl) (Ai (Er (SV.ls 15 n)) (Ai (Er (SV.ls 12 mm)) (Ai hwa (Ai (Er (SV.ls 15 n)) (Ai (Er (SV.ls 12 mm)) (Ai (qcv ((wh).set m.i.toNat (k:Int)) x.i.toNat ((q+1:Nat):Int) hwal) (Ai (qaJ ((wh).set m.i.toNat (k:Int)) x.i.toNat hwal) (Ai (Er (SV.ls 15 n)) (Ai (Er (SV.ls 12 mm)) tI))))))))))))))))))))))))))))))))))))))))))) r
theorem qfO {wh u2 f2:List Int} {b2:List Bool} {ev:List Ev} {x m:Ev} {k q n mm:Nat} (hq:iV (IntKind.i64.wrap (2*(k:Int)))=iV (q:Int)) (hq1:iV (IntKind.i64.wrap ((q:Int)+1))=iV (((q+1:Nat):Int))) (hge:decide (((q+1:Nat):Int)≥(n:Int))=false) (hq2:iV (IntKind.i64.wrap (((q+1:Nat):Int)+1))=iV (((q+2:Nat):Int))) (h2:decide (((q+2:Nat):Int)<(n:Int))=false) (hin_m:0≤((q+1:Nat):Int)∧((q+1:Nat):Int)<(n:Int)) (he_m:ev[(q+1:Nat)]?=some m) (hin_x:0≤(k:Int)∧(k:Int)<(n:Int)) (he_x:ev[k]?=some x) (hl:Pure Tryz.prog 131 #[qaa m,qaa x] (.bool false)):Rl 5 20 181 0 52 21 (qtZ k) (qw6 b2 ev f2 mm n u2 wh) (.ret) ([]) (qyx b2 ev f2 mm n u2 wh):=
 RunsL.stop [] 300 [Re hq,Re hq1,.t false,.r (iV (((q+2:Nat):Int))),.t false,.r (qaa m),.r (qaa x),Rf hl,.k] (fun h=>by cases h)
  (Ro (Ai hq (Ai hq1 (Ai hge (Ai hq2 (Ai h2 (Ai hin_m (Ai (qaC he_m) (Ai hin_x (Ai (qaC he_x) (Ai hl tI)))))))))))
theorem qeS {wh u2 f2:List Int} {b2:List Bool} {ev:List Ev} {x y m:Ev} {k q n mm:Nat} (hq:iV (IntKind.i64.wrap (2*(k:Int)))=iV (q:Int)) (hq1:iV (IntKind.i64.wrap ((q:Int)+1))=iV (((q+1:Nat):Int))) (hge:decide (((q+1:Nat):Int)≥(n:Int))=false) (hq2:iV (IntKind.i64.wrap (((q+1:Nat):Int)+1))=iV (((q+2:Nat):Int))) (h2:decide (((q+2:Nat):Int)<(n:Int))=true) (hin_y:0≤((q+2:Nat):Int)∧((q+2:Nat):Int)<(n:Int)) (he_y:ev[(q+2:Nat)]?=some y) (hin_m:0≤((q+1:Nat):Int)∧((q+1:Nat):Int)<(n:Int)) (he_m:ev[(q+1:Nat)]?=some m) (hl2:Pure Tryz.prog 131 #[qaa y,qaa m] (.bool false)) (hin_x:0≤(k:Int)∧(k:Int)<(n:Int)) (he_x:ev[k]?=some x) (hl:Pure Tryz.prog 131 #[qaa m,qaa x] (.bool true)) (hsa:k<(ev).length) (hsb:(q+1:Nat)<((ev).set k m).length) (h2a:(((ev).set k m).set (q+1:Nat) x)[k]?=some m) (h2b:(((ev).set k m).set (q+1:Nat) x)[(q+1:Nat)]?=some x) (hwb:0≤m.i∧m.i<(mm:Int)) (hwbl:m.i.toNat<(wh).length) (hwa:0≤x.i∧x.i<(mm:Int)) (hwal:x.i.toNat<((wh).set m.i.toNat (k:Int)).length) {e:Exit} {tm2:TmL} {hp2:HpL}
 (r:Rl 5 20 181 0 52 21 ([(1,.pv (iV ((q+1:Nat):Int))),(2,.pp 20 0)]) (qGP b2 ev f2 k m mm n q u2 wh x) e tm2 hp2):Rl 5 20 181 0 52 21 (qtZ k) (qw6 b2 ev f2 mm n u2 wh) e tm2 hp2:=
 RunsL.next [] 300 [Re hq,Re hq1,.t false,.r (iV (((q+2:Nat):Int))),.t true,.r (iV (((q+2:Nat):Int))),.r (qaa y),.r (qaa m),Rf hl2,.r (qaa m),.r (qaa x),Rf hl,.k,.k,.gh [(21,3)],.r (qaa m),.r (qaa x),.w (qat ((ev).set k m)),.w (qat (((ev).set k m).set (q+1:Nat) x)),.gh [(21,3),(21,4)],.r (iV (m.i)),.r (iV (x.i)),.w (ziV ((wh).set m.i.toNat (k:Int))),.w (ziV (((wh).set m.i.toNat (k:Int)).set x.i.toNat ((q+1:Nat):Int)))]
  (Ro (Ai hq (Ai hq1 (Ai hge (Ai hq2 (Ai h2 (Ai hq2 (Ai hin_y (Ai (qaC he_y) (Ai hin_m (Ai (qaC he_m) (Ai hl2 (Ai hin_m (Ai (qaC he_m) (Ai hin_x (Ai (qaC he_x) (Ai hl (Ai hin_m (Ai hin_x (Ai (qaC he_m) (Ai (qaC he_x) (Ai hin_x (Ai (Er (SV.ls 15 n)) (Ai (qdg (ev) k m hsa) (Ai (qbk (ev) k hsa) (Ai (Er (SV.ls 15 n)) (Ai hin_m (Ai (Er (SV.ls 15 n)) (Ai (qdg ((ev).set k m) (q+1:Nat) x hsb) (Ai (qbk ((ev).set k m) (q+1:Nat) hsb) (Ai (Er (SV.ls 15 n)) (Ai hin_x (Ai hin_m (Ai (qfy h2a) (Ai (qfy h2b) (Ai hwb (Ai (Er (SV.ls 15 n)) (Ai (Er (SV.ls 12 mm)) (Ai (qcv (wh) m.i.toNat (k:Int) hwbl) (Ai (qaJ (wh) m.i.toNat hwbl) (Ai (Er (SV.ls 15 n)) (Ai (Er (SV.ls 12 mm)) (Ai hwa (Ai (Er (SV.ls 15 n)) (Ai (Er (SV.ls 12 mm)) (Ai (qcv ((wh).set m.i.toNat (k:Int)) x.i.toNat ((q+1:Nat):Int) hwal) (Ai (qaJ ((wh).set m.i.toNat (k:Int)) x.i.toNat hwal) (Ai (Er (SV.ls 15 n)) (Ai (Er (SV.ls 12 mm)) tI))))))))))))))))))))))))))))))))))))))))))))))))) r
theorem qeX {wh u2 f2:List Int} {b2:List Bool} {ev:List Ev} {x y m:Ev} {k q n mm:Nat} (hq:iV (IntKind.i64.wrap (2*(k:Int)))=iV (q:Int)) (hq1:iV (IntKind.i64.wrap ((q:Int)+1))=iV (((q+1:Nat):Int))) (hge:decide (((q+1:Nat):Int)≥(n:Int))=false) (hq2:iV (IntKind.i64.wrap (((q+1:Nat):Int)+1))=iV (((q+2:Nat):Int))) (h2:decide (((q+2:Nat):Int)<(n:Int))=true) (hin_y:0≤((q+2:Nat):Int)∧((q+2:Nat):Int)<(n:Int)) (he_y:ev[(q+2:Nat)]?=some y) (hin_m:0≤((q+1:Nat):Int)∧((q+1:Nat):Int)<(n:Int)) (he_m:ev[(q+1:Nat)]?=some m) (hl2:Pure Tryz.prog 131 #[qaa y,qaa m] (.bool false)) (hin_x:0≤(k:Int)∧(k:Int)<(n:Int)) (he_x:ev[k]?=some x) (hl:Pure Tryz.prog 131 #[qaa m,qaa x] (.bool false)):Rl 5 20 181 0 52 21 (qtZ k) (qw6 b2 ev f2 mm n u2 wh) (.ret) ([]) (qyx b2 ev f2 mm n u2 wh):=
 RunsL.stop [] 300 [Re hq,Re hq1,.t false,.r (iV (((q+2:Nat):Int))),.t true,.r (iV (((q+2:Nat):Int))),.r (qaa y),.r (qaa m),Rf hl2,.r (qaa m),.r (qaa x),Rf hl2,.k] (fun h=>by cases h)
  (Ro (Ai hq (Ai hq1 (Ai hge (Ai hq2 (Ai h2 (Ai hq2 (Ai hin_y (Ai (qaC he_y) (Ai hin_m (Ai (qaC he_m) (Ai hl2 (Ai hin_m (Ai (qaC he_m) (Ai hin_x (Ai (qaC he_x) (Ai hl tI)))))))))))))))))
theorem qec {wh u2 f2:List Int} {b2:List Bool} {ev:List Ev} {x y m:Ev} {k q n mm:Nat} (hq:iV (IntKind.i64.wrap (2*(k:Int)))=iV (q:Int)) (hq1:iV (IntKind.i64.wrap ((q:Int)+1))=iV (((q+1:Nat):Int))) (hge:decide (((q+1:Nat):Int)≥(n:Int))=false) (hq2:iV (IntKind.i64.wrap (((q+1:Nat):Int)+1))=iV (((q+2:Nat):Int))) (h2:decide (((q+2:Nat):Int)<(n:Int))=true) (hin_y:0≤((q+2:Nat):Int)∧((q+2:Nat):Int)<(n:Int)) (he_y:ev[(q+2:Nat)]?=some y) (hin_m:0≤((q+1:Nat):Int)∧((q+1:Nat):Int)<(n:Int)) (he_m:ev[(q+1:Nat)]?=some m) (hl2:Pure Tryz.prog 131 #[qaa y,qaa m] (.bool true)) (hin_x:0≤(k:Int)∧(k:Int)<(n:Int)) (he_x:ev[k]?=some x) (hl:Pure Tryz.prog 131 #[qaa y,qaa x] (.bool true)) (hsa:k<(ev).length) (hsb:(q+2:Nat)<((ev).set k y).length) (h2a:(((ev).set k y).set (q+2:Nat) x)[k]?=some y) (h2b:(((ev).set k y).set (q+2:Nat) x)[(q+2:Nat)]?=some x) (hwb:0≤y.i∧y.i<(mm:Int)) (hwbl:y.i.toNat<(wh).length) (hwa:0≤x.i∧x.i<(mm:Int)) (hwal:x.i.toNat<((wh).set y.i.toNat (k:Int)).length) {e:Exit} {tm2:TmL} {hp2:HpL}
 (r:Rl 5 20 181 0 52 21 ([(1,.pv (iV ((q+2:Nat):Int))),(2,.pp 20 0)]) ([(20,0,.ls 16 u2.length),(20,1,.ls 17 b2.length),(20,2,.ls 18 f2.length),(20,3,.ls 15 n),(20,4,.ls 12 mm),(13,0,.ls 16 u2.length),(13,1,.ls 17 b2.length),(13,2,.ls 18 f2.length),(13,3,.ls 15 n),(13,4,.ls 12 mm),(7,0,.pv (.slice none 0 0)),(7,1,.pv (.slice none 0 0)),(7,2,.pv (.slice none 0 0)),(7,3,.pv (.slice none 0 0)),(7,4,.pv (.slice none 0 0)),(16,0,zrI u2),(17,0,zrB b2),(18,0,zrI f2),(15,0,.row 62 5 n (qat (((ev).set k y).set (q+2:Nat) x))),(12,0,.row 3 1 mm (ziV (((wh).set y.i.toNat (k:Int)).set x.i.toNat ((q+2:Nat):Int))))]) e tm2 hp2):Rl 5 20 181 0 52 21 (qtZ k) (qw6 b2 ev f2 mm n u2 wh) e tm2 hp2:=
 RunsL.next [] 300 [Re hq,Re hq1,.t false,.r (iV (((q+2:Nat):Int))),.t true,.r (iV (((q+2:Nat):Int))),.r (qaa y),.r (qaa m),Rf hl2,.r (iV (((q+2:Nat):Int))),.r (qaa y),.r (qaa x),Rf hl2,.k,.k,.gh [(21,3)],.r (qaa y),.r (qaa x),.w (qat ((ev).set k y)),.w (qat (((ev).set k y).set (q+2:Nat) x)),.gh [(21,3),(21,4)],.r (iV (y.i)),.r (iV (x.i)),.w (ziV ((wh).set y.i.toNat (k:Int))),.w (ziV (((wh).set y.i.toNat (k:Int)).set x.i.toNat ((q+2:Nat):Int)))]
  (Ro (Ai hq (Ai hq1 (Ai hge (Ai hq2 (Ai h2 (Ai hq2 (Ai hin_y (Ai (qaC he_y) (Ai hin_m (Ai (qaC he_m) (Ai hl2 (Ai hq2 (Ai hin_y (Ai (qaC he_y) (Ai hin_x (Ai (qaC he_x) (Ai hl (Ai hin_y (Ai hin_x (Ai (qaC he_y) (Ai (qaC he_x) (Ai hin_x (Ai (Er (SV.ls 15 n)) (Ai (qdg (ev) k y hsa) (Ai (qbk (ev) k hsa) (Ai (Er (SV.ls 15 n)) (Ai hin_y (Ai (Er (SV.ls 15 n)) (Ai (qdg ((ev).set k y) (q+2:Nat) x hsb) (Ai (qbk ((ev).set k y) (q+2:Nat) hsb) (Ai (Er (SV.ls 15 n)) (Ai hin_x (Ai hin_y (Ai (qfy h2a) (Ai (qfy h2b) (Ai hwb (Ai (Er (SV.ls 15 n)) (Ai (Er (SV.ls 12 mm)) (Ai (qcv (wh) y.i.toNat (k:Int) hwbl) (Ai (qaJ (wh) y.i.toNat hwbl) (Ai (Er (SV.ls 15 n)) (Ai (Er (SV.ls 12 mm)) (Ai hwa (Ai (Er (SV.ls 15 n)) (Ai (Er (SV.ls 12 mm)) (Ai (qcv ((wh).set y.i.toNat (k:Int)) x.i.toNat ((q+2:Nat):Int) hwal) (Ai (qaJ ((wh).set y.i.toNat (k:Int)) x.i.toNat hwal) (Ai (Er (SV.ls 15 n)) (Ai (Er (SV.ls 12 mm)) tI)))))))))))))))))))))))))))))))))))))))))))))))))) r
theorem qew {wh u2 f2:List Int} {b2:List Bool} {ev:List Ev} {x y m:Ev} {k q n mm:Nat} (hq:iV (IntKind.i64.wrap (2*(k:Int)))=iV (q:Int)) (hq1:iV (IntKind.i64.wrap ((q:Int)+1))=iV (((q+1:Nat):Int))) (hge:decide (((q+1:Nat):Int)≥(n:Int))=false) (hq2:iV (IntKind.i64.wrap (((q+1:Nat):Int)+1))=iV (((q+2:Nat):Int))) (h2:decide (((q+2:Nat):Int)<(n:Int))=true) (hin_y:0≤((q+2:Nat):Int)∧((q+2:Nat):Int)<(n:Int)) (he_y:ev[(q+2:Nat)]?=some y) (hin_m:0≤((q+1:Nat):Int)∧((q+1:Nat):Int)<(n:Int)) (he_m:ev[(q+1:Nat)]?=some m) (hl2:Pure Tryz.prog 131 #[qaa y,qaa m] (.bool true)) (hin_x:0≤(k:Int)∧(k:Int)<(n:Int)) (he_x:ev[k]?=some x) (hl:Pure Tryz.prog 131 #[qaa y,qaa x] (.bool false)):Rl 5 20 181 0 52 21 (qtZ k) (qw6 b2 ev f2 mm n u2 wh) (.ret) ([]) (qyx b2 ev f2 mm n u2 wh):=
 RunsL.stop [] 300 [Re hq,Re hq1,.t false,.r (iV (((q+2:Nat):Int))),.t true,.r (iV (((q+2:Nat):Int))),.r (qaa y),.r (qaa m),Rf hl2,.r (iV (((q+2:Nat):Int))),.r (qaa y),.r (qaa x),Rf hl,.k] (fun h=>by cases h)
  (Ro (Ai hq (Ai hq1 (Ai hge (Ai hq2 (Ai h2 (Ai hq2 (Ai hin_y (Ai (qaC he_y) (Ai hin_m (Ai (qaC he_m) (Ai hl2 (Ai hq2 (Ai hin_y (Ai (qaC he_y) (Ai hin_x (Ai (qaC he_x) (Ai hl tI))))))))))))))))))
theorem qoq (g:List Ev) (k:Nat):some (SV.row 62 5 k ((qat g).take (k*5)))=some (SV.row 62 5 k (qat (g.take k))):=by rw[qfc]
abbrev qHj (b:List Bool) (ev:List Ev) (fr:List Int) (u:List Int) (wh:List Int):Prop:=Fn 54 5 [agA u b fr ev wh] [(0,0,zrI u),(1,0,zrB b),(2,0,zrI fr),(3,0,qap ev),(4,0,zrI wh)] (.ag [.ls 5 u.length,.ls 6 b.length,.ls 7 fr.length,.ls 8 ev.length,.ls 9 wh.length]) 5 [(5,0,zrI u),(6,0,zrB b),(7,0,zrI fr),(8,0,qap ev),(9,0,zrI wh)]
theorem qvK {u fr wh u2 f2:List Int} {b b2:List Bool} {ev:List Ev} {hi hw:Int} {k la:Nat} (htw:qHj b ev fr u wh) (hiw:0≤hi∧hi<(wh.length:Int)) (hwk:wh[hi.toNat]?=some (k:Int)) (hla:iV (IntKind.i64.wrap ((ev.length:Int)-1))=iV (la:Int)) (hne:(!((k:Int)==(la:Int)))=false) (hll:la≤ev.length) (hws:hi.toNat<(wh).length) (hg:Fn 180 3 [.ag [.ls 0 u.length,.ls 1 b.length,.ls 2 fr.length],.pv (qaG hi hw)] [(0,0,zrI u),(1,0,zrB b),(2,0,zrI fr)] (.ag [.ls 3 u2.length,.ls 4 b2.length,.ls 5 f2.length]) 3 [(3,0,zrI u2),(4,0,zrB b2),(5,0,zrI f2)]) :
 Fn 126 5 [agA u b fr ev wh,.pv (qaG hi hw)] [(0,0,zrI u),(1,0,zrB b),(2,0,zrI fr),(3,0,qap ev),(4,0,zrI wh)] (.ag [.ls 5 u2.length,.ls 6 b2.length,.ls 7 f2.length,.ls 8 la,.ls 9 wh.length]) 5 [(5,0,zrI u2),(6,0,zrB b2),(7,0,zrI f2),(8,0,.row 62 5 la (qat (ev.take la))),(9,0,.row 3 1 wh.length (ziV (wh.set hi.toNat (-1))))]:=
 Fz [(5,15),(6,16),(7,17),(8,14),(9,12)] [Cf htw [0,1,2,3,4],.r (iV (k:Int)),Re hla,.t false,.w [],.w (ziV ((wh).set hi.toNat (-1))),Cf hg [8,9,10],.t false]
  (Ai (Er (zrI u2)) (Ai (Er (zrB b2)) (Ai (Er (zrI f2)) (Ai (qoq ev la) (Ai (Er (SV.row 3 1 wh.length (ziV (wh.set hi.toNat (-1))))) tI))))) (Co htw [0,1,2,3,4] 8 (Ai hiw (Ai (qcW hwk) (Ai hla (Ai hne (Ai (Int.natCast_nonneg la) (Ai hll (Ai hiw (Ai (qcv (wh) hi.toNat (-1) hws) (Ai (qaJ (wh) hi.toNat hws) (Co hg [8,9,10] 15 (Ai hne tI))))))))))))
theorem qw8 {u fr wh u2 f2 wh3 wh4:List Int} {b b2:List Bool} {ev ev3 ev4:List Ev} {x xl:Ev} {hi hw:Int} {k n mm p la:Nat} (htw:qHj b ev fr u wh) (hiw:0≤hi∧hi<(wh.length:Int)) (hwk:wh[hi.toNat]?=some (k:Int)) (hla:iV (IntKind.i64.wrap ((ev.length:Int)-1))=iV (la:Int)) (hne:(!((k:Int)==(la:Int)))=true) (hin_x:0≤(k:Int)∧(k:Int)<(ev.length:Int)) (he_x:ev[k]?=some x) (hin_xl:0≤(la:Int)∧(la:Int)<(ev.length:Int)) (he_xl:ev[la]?=some xl) (hsa:k<(ev).length) (hsb:la<((ev).set k xl).length) (h2a:(((ev).set k xl).set la x)[k]?=some xl) (h2b:(((ev).set k xl).set la x)[la]?=some x) (hwb:0≤xl.i∧xl.i<(wh.length:Int)) (hwbl:xl.i.toNat<(wh).length) (hwa:0≤x.i∧x.i<(wh.length:Int)) (hwal:x.i.toNat<((wh).set xl.i.toNat (k:Int)).length) (hll:la≤ev.length) (hws:hi.toNat<(((wh).set xl.i.toNat (k:Int)).set x.i.toNat (la:Int)).length) (hg:Fn 180 3 [.ag [.ls 0 u.length,.ls 1 b.length,.ls 2 fr.length],.pv (qaG hi hw)] [(0,0,zrI u),(1,0,zrB b),(2,0,zrI fr)] (.ag [.ls 3 u2.length,.ls 4 b2.length,.ls 5 f2.length]) 3 [(3,0,zrI u2),(4,0,zrB b2),(5,0,zrI f2)]) (r0:Rl 5 19 178 0 32 20 (qC4 k) ([(19,0,.ls 16 u2.length),(19,1,.ls 17 b2.length),(19,2,.ls 18 f2.length),(19,3,.ls 15 la),(19,4,.ls 12 wh.length),(13,0,.ls 16 u2.length),(13,1,.ls 17 b2.length),(13,2,.ls 18 f2.length),(13,3,.ls 15 la),(13,4,.ls 12 wh.length),(7,0,.pv (.slice none 0 0)),(7,1,.pv (.slice none 0 0)),(7,2,.pv (.slice none 0 0)),(7,3,.pv (.slice none 0 0)),(7,4,.pv (.slice none 0 0)),(16,0,zrI u2),(17,0,zrB b2),(18,0,zrI f2),(15,0,.row 62 5 la (qat ((((ev).set k xl).set la x).take la))),(12,0,.row 3 1 wh.length (ziV ((((wh).set xl.i.toNat (k:Int)).set x.i.toNat (la:Int)).set hi.toNat (-1))))]) (.exit 0) ([(1,.pv (iV (p:Int)))]) ([(13,0,.ls 16 u2.length),(13,1,.ls 17 b2.length),(13,2,.ls 18 f2.length),(13,3,.ls 15 la),(13,4,.ls 12 wh.length),(7,0,.pv (.slice none 0 0)),(7,1,.pv (.slice none 0 0)),(7,2,.pv (.slice none 0 0)),(7,3,.pv (.slice none 0 0)),(7,4,.pv (.slice none 0 0)),(16,0,zrI u2),(17,0,zrB b2),(18,0,zrI f2),(15,0,.row 62 5 la (qat (ev3))),(12,0,.row 3 1 wh.length (ziV (wh3)))])) (r1:Rl 5 20 181 0 52 21 ([(1,.pv (iV (p:Int))),(2,.pp 20 0)]) ([(20,0,.ls 16 u2.length),(20,1,.ls 17 b2.length),(20,2,.ls 18 f2.length),(20,3,.ls 15 la),(20,4,.ls 12 wh.length),(13,0,.ls 16 u2.length),(13,1,.ls 17 b2.length),(13,2,.ls 18 f2.length),(13,3,.ls 15 la),(13,4,.ls 12 wh.length),(7,0,.pv (.slice none 0 0)),(7,1,.pv (.slice none 0 0)),(7,2,.pv (.slice none 0 0)),(7,3,.pv (.slice none 0 0)),(7,4,.pv (.slice none 0 0)),(16,0,zrI u2),(17,0,zrB b2),(18,0,zrI f2),(15,0,.row 62 5 la (qat (ev3))),(12,0,.row 3 1 wh.length (ziV (wh3)))]) (.ret) ([]) ([(13,0,.ls 16 u2.length),(13,1,.ls 17 b2.length),(13,2,.ls 18 f2.length),(13,3,.ls 15 la),(13,4,.ls 12 wh.length),(7,0,.pv (.slice none 0 0)),(7,1,.pv (.slice none 0 0)),(7,2,.pv (.slice none 0 0)),(7,3,.pv (.slice none 0 0)),(7,4,.pv (.slice none 0 0)),(16,0,zrI u2),(17,0,zrB b2),(18,0,zrI f2),(15,0,.row 62 5 la (qat (ev4))),(12,0,.row 3 1 wh.length (ziV (wh4)))])) :
 Fn 126 5 [agA u b fr ev wh,.pv (qaG hi hw)] [(0,0,zrI u),(1,0,zrB b),(2,0,zrI fr),(3,0,qap ev),(4,0,zrI wh)] (.ag [.ls 5 u2.length,.ls 6 b2.length,.ls 7 f2.length,.ls 8 la,.ls 9 wh.length]) 5 [(5,0,zrI u2),(6,0,zrB b2),(7,0,zrI f2),(8,0,.row 62 5 la (qat (ev4))),(9,0,.row 3 1 wh.length (ziV (wh4)))]:=
 qbs 400 [(5,16),(6,17),(7,18),(8,15),(9,12)] [Cf htw [0,1,2,3,4],.r (iV (k:Int)),Re hla,.t true,.k,.gh [(14,3)],.r (qaa xl),.r (qaa x),.w (qat ((ev).set k xl)),.w (qat (((ev).set k xl).set la x)),.gh [(14,3),(14,4)],.r (iV (xl.i)),.r (iV (x.i)),.w (ziV ((wh).set xl.i.toNat (k:Int))),.w (ziV (((wh).set xl.i.toNat (k:Int)).set x.i.toNat (la:Int))),.w [],.w (ziV ((((wh).set xl.i.toNat (k:Int)).set x.i.toNat (la:Int)).set hi.toNat (-1))),Cf hg [8,9,10],.t true,.gh [(13,0),(13,1),(13,2),(13,3),(13,4)],.k,Lf r0,.k,Lf r1]
  (qaE (qaK [(5,16),(6,17),(7,18),(8,15),(9,12)]) [(5,0,zrI u2),(6,0,zrB b2),(7,0,zrI f2),(8,0,.row 62 5 la (qat (ev4))),(9,0,.row 3 1 wh.length (ziV (wh4)))]) (Co htw [0,1,2,3,4] 8 (Ai hiw (Ai (qcW hwk) (Ai hla (Ai hne (Ai hin_xl (Ai hin_x (Ai (qaC he_xl) (Ai (qaC he_x) (Ai hin_x (Ai (Er (SV.ls 11 ev.length)) (Ai (qdg (ev) k xl hsa) (Ai (qbk (ev) k hsa) (Ai (Er (SV.ls 11 ev.length)) (Ai hin_xl (Ai (Er (SV.ls 11 ev.length)) (Ai (qdg ((ev).set k xl) la x hsb) (Ai (qbk ((ev).set k xl) la hsb) (Ai (Er (SV.ls 11 ev.length)) (Ai hin_x (Ai hin_xl (Ai (qfy h2a) (Ai (qfy h2b) (Ai hwb (Ai (Er (SV.ls 11 ev.length)) (Ai (Er (SV.ls 12 wh.length)) (Ai (qcv (wh) xl.i.toNat (k:Int) hwbl) (Ai (qaJ (wh) xl.i.toNat hwbl) (Ai (Er (SV.ls 11 ev.length)) (Ai (Er (SV.ls 12 wh.length)) (Ai hwa (Ai (Er (SV.ls 11 ev.length)) (Ai (Er (SV.ls 12 wh.length)) (Ai (qcv ((wh).set xl.i.toNat (k:Int)) x.i.toNat (la:Int) hwal) (Ai (qaJ ((wh).set xl.i.toNat (k:Int)) x.i.toNat hwal) (Ai (Er (SV.ls 11 ev.length)) (Ai (Er (SV.ls 12 wh.length)) (Ai (Int.natCast_nonneg la) (Ai hll (Ai hiw (Ai (qcv (((wh).set xl.i.toNat (k:Int)).set x.i.toNat (la:Int)) hi.toNat (-1) hws) (Ai (qaJ (((wh).set xl.i.toNat (k:Int)).set x.i.toNat (la:Int)) hi.toNat hws) (Co hg [8,9,10] 16 (Ai hne (Ai (Er (SV.ls 16 u2.length)) (Ai (Er (SV.ls 17 b2.length)) (Ai (Er (SV.ls 18 f2.length)) (Ai (Er (SV.ls 15 la)) (Ai (Er (SV.ls 12 wh.length)) (Ai (Lt r0 []) (Ai (Ai (Er (SV.ls 16 u2.length)) (Ai (Er (SV.ls 17 b2.length)) (Ai (Er (SV.ls 18 f2.length)) (Ai (Er (SV.ls 15 la)) (Ai (Er (SV.ls 12 wh.length)) (Ai (Er (SV.ls 16 u2.length)) (Ai (Er (SV.ls 17 b2.length)) (Ai (Er (SV.ls 18 f2.length)) (Ai (Er (SV.ls 15 la)) (Ai (Er (SV.ls 12 wh.length)) (Ai (Er (SV.pv (.slice none 0 0))) (Ai (Er (SV.pv (.slice none 0 0))) (Ai (Er (SV.pv (.slice none 0 0))) (Ai (Er (SV.pv (.slice none 0 0))) (Ai (Er (SV.pv (.slice none 0 0))) (Ai (Er (zrI u2)) (Ai (Er (zrB b2)) (Ai (Er (zrI f2)) (Ai (qoq (((ev).set k xl).set la x) la) (Ai (Er (SV.row 3 1 wh.length (ziV ((((wh).set xl.i.toNat (k:Int)).set x.i.toNat (la:Int)).set hi.toNat (-1))))) tI)))))))))))))))))))) (Ai r0 (Ai (Er (SV.ls 16 u2.length)) (Ai (Er (SV.ls 17 b2.length)) (Ai (Er (SV.ls 18 f2.length)) (Ai (Er (SV.ls 15 la)) (Ai (Er (SV.ls 12 wh.length)) (Lo r1 [] (Ai (Er (SV.ls 16 u2.length)) (Ai (Er (SV.ls 17 b2.length)) (Ai (Er (SV.ls 18 f2.length)) (Ai (Er (SV.ls 15 la)) (Ai (Er (SV.ls 12 wh.length)) tI))))))))))))))))))))))))))))))))))))))))))))))))))))))))))))))) (by kernel_rfl)
end Go.Proofs.YtkjaanhddkkodaaGreat

namespace Go.Proofs.YtkjaanhddkkodaaGreat
set_option maxRecDepth 100000
open Go.RowKit
def qmG:Int→List P2→List P2→List Ev
 | i,r::rs,h::hs=>⟨r.a,r.b,i,h.a,h.b⟩::qmG (i+1) rs hs
 | _,_,_=>[]
theorem qiQ:∀ (i:Int) (rs hs:List P2) (r h:P2),rs.length=hs.length→qmG i (rs++[r]) (hs++[h])=qmG i rs hs++[⟨r.a,r.b,i+(rs.length:Int),h.a,h.b⟩]
 | i,[],[],r,h,_=>by simp[qmG]
 | i,[],_::_,r,h,e=>by simp at e
 | i,_::_,[],r,h,e=>by simp at e
 | i,a::rs,c::hs,r,h,e=>by
  have:=qiQ (i+1) rs hs r h (by simpa using e)
  simp only[List.cons_append,qmG,this,List.length_cons]
  congr 3
  congr 1
  omega
theorem qtE:∀ {i:Int} {rs hs:List P2} {x:Ev},x∈qmG i rs hs→i≤x.k∧x.k<i+(rs.length:Int)
 | i,[],_,x,h=>by simp[qmG] at h
 | i,_::_,[],x,h=>by simp[qmG] at h
 | i,r::rs,c::hs,x,h=>by
  simp only[qmG,List.mem_cons] at h
  rcases h with rfl | h
  ·simp only[List.length_cons];omega
  ·have:=qtE h
   simp only[List.length_cons];omega
structure FS (rs:List P2) (k:Nat) (u:List Int) (b:List Bool) (fr:List Int) (ev:List Ev) (wh:List Int) (hv:List P2):Prop where
 va:VA u b fr ev wh
 len:hv.length=k
 ul:u.length=50
 ub:∀ y∈u,y≤(k:Int)
 perm:ev.Perm (qmG 0 (rs.take k) hv)
 live:∀ h∈hv,Live u b h.a h.b
def qHv (rs:List P2):Prop:=∀ r∈rs,(I64 r.a∧I64 r.b)∧okB r.a r.b=true
theorem FS.step {rs:List P2} {k:Nat} {u:List Int} {b:List Bool} {fr:List Int} {ev:List Ev} {wh:List Int} {hv:List P2} (h:FS rs k u b fr ev wh hv) (ho:qHv rs) (hk:k<rs.length) (hl:rs.length≤30) {ra:P2} (hr:rs[k]?=some ra) :
 ∃ u2 b2 f2 hi hw,qbx u b fr=some (u2,b2,f2,hi,hw)∧cnE ev (k:Int)=0∧FS rs (k+1) u2 b2 f2 (qaY ev wh ⟨ra.a,ra.b,(k:Int),hi,hw⟩).1 (qaY ev wh ⟨ra.a,ra.b,(k:Int),hi,hw⟩).2 (hv++[⟨hi,hw⟩]):=by
 obtain⟨ht,h0⟩:=ho ra (List.mem_of_getElem? hr)
 have hcnt:=h.va.vd.count
 have hel:ev.length=k:=by
  have h1:=h.perm.length_eq
  have:∀ (i:Int) (rs hs:List P2),rs.length=hs.length→(qmG i rs hs).length=hs.length:=by
   intro i rs hs
   induction rs generalizing i hs with
   | nil=>intro e;cases hs with
    | nil=>rfl
    | cons a r=>simp at e
   | cons a r ih=>intro e;cases hs with
    | nil=>simp at e
    | cons c q=>simp only[qmG,List.length_cons];rw[ih (i+1) q (by simpa using e)]
  rw[this 0 (rs.take k) hv (by rw[List.length_take,h.len];omega),h.len] at h1
  exact h1
 have hc2:=h.va.wf.cnt
 have hul:=h.ul
 have hne:fr≠[]:=fun e=>by rw[e] at hcnt;simp at hcnt;omega
 have hlast:=List.getLast?_eq_some_getLast hne
 generalize fr.getLast hne=hi at hlast
 have hin:=h.va.vd.rng hi (by obtain⟨e,_,_⟩:=qbf hlast;rw[e];simp)
 have hy:u[hi.toNat]?=some (u[hi.toNat]'(by omega)):=List.getElem?_eq_getElem (by omega)
 generalize u[hi.toNat]'(by omega)=y at hy
 have hyb:=h.ub y (List.mem_of_getElem? hy)
 have htk:qbx u b fr=some (u.set hi.toNat (y+1),b.set hi.toNat true,fr.dropLast,hi,y+1):=by
  unfold qbx
  simp only[hlast,hy]
  rw[if_neg (by omega)]
 have hcn:cnE ev (k:Int)=0:=by
  unfold cnE
  rw[if_pos (by omega),if_neg]
  rintro⟨m,hm,e⟩
  have:=qtE (h.perm.mem_iff.1 hm)
  rw[List.length_take] at this
  omega
 obtain⟨v1,v2,v3,v4⟩:=h.va.push (z:=(k:Int)) ht h0 hcn htk
 refine⟨_,_,_,_,_,htk,hcn,v1,by simp[h.len],by rw[List.length_set];exact hul,fun q hq=>?_,?_,fun q hq=>?_⟩
 ·rcases List.mem_or_eq_of_mem_set hq with hq | hq
  ·have:=h.ub q hq;omega
  ·omega
 ·rw[List.take_add_one,hr]
  have e:=qiQ 0 (rs.take k) hv ra ⟨hi,y+1⟩ (by rw[List.length_take,h.len];omega)
  rw[show (some ra).toList=[ra] from rfl,e,List.length_take,show (0:Int)+((min k rs.length:Nat):Int)=(k:Int) by omega]
  exact v2.trans (h.perm.append_right _)
 ·rcases List.mem_append.1 hq with hq | hq
  ·exact v4 _ _ (h.live q hq)
  ·rw[List.mem_singleton] at hq
   subst hq
   exact v3
theorem VA.new {n:Nat} (h1:1≤n) (h2:n≤200):VA (List.replicate n 0) (List.replicate n false) (qeU n) [] (List.replicate n (-1)):=by
 refine VA.of (Vd.new h1 h2) (by simp) (fun j x hx=>by simp at hx) (fun x hx=>by simp at hx) (fun k hk=>?_) (fun k hk=>?_) (by simp[List.count_replicate]) (fun x hx=>by simp at hx) (by simp) (fun k _ x y hx=>by simp at hx)
 ·have:=List.eq_of_mem_replicate (List.mem_of_getElem? hk)
  cases this
 ·have:=(List.getElem?_eq_some_iff.1 hk).1
  simp at this
  simp[this]
end Go.Proofs.YtkjaanhddkkodaaGreat

namespace Go.Proofs.YtkjaanhddkkodaaGreat
set_option maxRecDepth 100000
open Go.RowKit
section
variable {u fr wh:List Int} {b:List Bool} {ev:List Ev}
theorem VA.one {x y:Ev} (h:VA u b fr ev wh) (hx:x∈ev) (hy:y∈ev) (e:x.i=y.i):x=y:=by
 obtain⟨j,hj⟩:=List.mem_iff_getElem?.1 hx
 obtain⟨k,hk⟩:=List.mem_iff_getElem?.1 hy
 have:=h.con.inj hj hk e
 subst this
 rw[hj] at hk
 exact Option.some.inj hk
theorem VA.place {x:Ev} (h:VA u b fr ev wh) (hm:x∈ev):∃ j:Nat,ev[j]?=some x∧wh[x.i.toNat]?=some (j:Int)∧Live u b x.i x.w:=by
 obtain⟨j,hj⟩:=List.mem_iff_getElem?.1 hm
 exact⟨j,hj,(h.own hj).2,(h.own hj).1⟩
section
variable {u2 f2 wh3:List Int} {b2:List Bool} {ev3:List Ev} {gi gw:Int}
end
end
end Go.Proofs.YtkjaanhddkkodaaGreat
