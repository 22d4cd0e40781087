/-
  Joined: Yp, Yv, Vf, Vl, Ys, Yz, Lb, Bj, Lc, Bl. Conditions: none.
-/
import Derived.Test.YtkjaanhddkkodaaGreatYo
import Derived.Test.YtkjaanhddkkodaaGreatW18
import Derived.Test.YtkjaanhddkkodaaGreatZj
import Derived.Test.YtkjaanhddkkodaaGreatW27
import Derived.Test.YtkjaanhddkkodaaGreatW26
import Derived.Test.YtkjaanhddkkodaaGreatSxP
namespace Go.Proofs.YtkjaanhddkkodaaGreat
set_option maxRecDepth 100000
open Go.RowKit
structure P2 where
 a:Int
 b:Int
deriving DecidableEq
def p2V:List P2→List Value
 | []=>[]
 | m::r=>iV m.a::iV m.b::p2V r
abbrev qF7 (l:List P2):SV:=.row 23 2 l.length (p2V l)
abbrev qF8 (l:List P2):SV:=.row 52 2 l.length (p2V l)
theorem qoo:∀ {l:List P2} {k:Nat} {m:P2},l[k]?=some m→(p2V l)[k*2]?=some (iV m.a)∧(p2V l)[k*2+1]?=some (iV m.b)
 | [],k,p,h=>by simp at h
 | q::r,0,p,h=>by simp at h;subst h;exact⟨rfl,rfl⟩
 | q::r,k+1,p,h=>by
  have:=qoo (l:=r) (k:=k) (m:=p) (by simpa using h)
  rw[show (k+1)*2=k*2+1+1 by omega]
  exact this
theorem qEX {l:List P2} {k:Nat} {m:P2} (h:l[k]?=some m):qcQ (p2V l) (0*2+k*2) [iV m.a,iV m.b]:=by
 obtain⟨h1,h2⟩:=qoo h
 intro j v hj
 rw[show 0*2+k*2+j=k*2+j by omega]
 match j,hj with
 | 0,hj=>cases hj;exact h1
 | 1,hj=>cases hj;exact h2
 | j+2,hj=>simp at hj
end Go.Proofs.YtkjaanhddkkodaaGreat

namespace Go.Proofs.YtkjaanhddkkodaaGreat
set_option maxRecDepth 100000
open Go.ChangeShapes Go.WideShapes Go.ChangeAt Go.RowKit Go.Joins Go.Deep
theorem qCl:Tryz.prog.cellsOf 62=5:=by kernel_rfl
theorem qzy:Tryz.prog.cellsOf 23=2:=by kernel_rfl
theorem qzC:Tryz.prog.cellsOf 52=2:=by kernel_rfl
theorem qsq:Tryz.prog.cellsOf 2=1:=by kernel_rfl
theorem qCk:Tryz.prog.cellsOf 34=1:=by kernel_rfl
theorem qCM:Tryz.prog.cellsOf 36=5:=by kernel_rfl
theorem qBy {n:Int} (h:(Lit.int .i64 n).wf=true):I64 n:=by
 simp only[Lit.wf,Bool.and_eq_true,decide_eq_true_eq] at h
 have h1:IntKind.i64.min = -9223372036854775808:=by decide
 have h2:IntKind.i64.max=9223372036854775807:=by decide
 rw[h1,h2] at h
 exact h
section
variable {H:Type} {enc:TypeId×Value→H} {W:World} {base:Nat} {spare:Nat→Bool} {held:Bool}
theorem qAC (f:Nat→Ev):∀ (n j:Nat) (v:Value),(qaK ((List.range n).map f))[j]?=some v→j/5<n∧(ecV (f (j/5)))[j%5]?=some v:=by
 intro n j v h
 have hj:j<n*5:=by
  have:=(List.getElem?_eq_some_iff.1 h).1
  rw[qa7] at this
  simpa using this
 have hk:j/5<n:=by omega
 obtain⟨g0,g1,g2,g3,g4⟩:=qc7 (l:=(List.range n).map f) (k:=j/5) (m:=f (j/5)) (by simp[hk])
 refine⟨hk,?_⟩
 have h5:j%5=0∨j%5=1∨j%5=2∨j%5=3∨j%5=4:=by omega
 have e:j=j/5*5+j%5:=by omega
 rw[e] at h
 rcases h5 with e3 | e3 | e3 | e3 | e3<;>rw[e3] at h ⊢
 ·rw[Nat.add_zero,g0] at h;exact h
 ·rw[g1] at h;exact h
 ·rw[g2] at h;exact h
 ·rw[g3] at h;exact h
 ·rw[g4] at h;exact h
theorem qpj {fuel:Nat} {cs:List Value} {x:DataW H×List MemPlace} (h:DataW.trod enc Tryz.prog W base spare held fuel 34 cs=some x) :
 ∃ (u:Value) (l:List Ev),cs=[u]∧Rd W 5 u l.length (qaK l)∧∀ p∈l,EvI p:=by
 rcases open_slice Tryz.underlying34 h with ⟨rfl,_⟩ | ⟨a,len,cap,m,n,D,Pl,rfl,_,hlc,_,hm,_,hi⟩
 ·exact⟨_,[],rfl,⟨rfl,none,0,rfl,Nat.le_refl _,fun j v hv=>by simp[qaK] at hv⟩,fun p hp=>by simp at hp⟩
 have hlm:len≤m:=by rw[hm];split<;>omega
 have each:∀ i,i<len→∃ p:Ev,(W.cell? (a.add (i*5))=some (iV p.n)∧W.cell? (a.add (i*5+1))=some (iV p.d)∧W.cell? (a.add (i*5+2))=some (iV p.k)∧W.cell? (a.add (i*5+3))=some (iV p.i)∧W.cell? (a.add (i*5+4))=some (iV p.w))∧EvI p:=by
  intro i hil
  obtain⟨cs',hc,ht⟩:=hi i (by omega)
  rw[qCl] at hc
  obtain⟨y0,y1,y2,n',_,hlen,t0,t1,t2⟩:=trod_struct3 Tryz.underlying62 ht
  obtain⟨z0,z1,n2,_,hlen2,s0,s1⟩:=trod_struct2 Tryz.underlying23 t0
  obtain⟨z2,z3,n3,_,hlen3,s2,s3⟩:=trod_struct2 Tryz.underlying52 t2
  obtain⟨_,hcl,hat⟩:=World.cells?_some hc
  match cs',hcl with
  | [c0,c1,c2,c3,c4],_=>
   obtain⟨pn,e0,_,w0⟩:=DataW.trod_int Tryz.underlying2 s0
   obtain⟨pd,e1,_,w1⟩:=DataW.trod_int Tryz.underlying2 s1
   obtain⟨pk,e2,_,w2⟩:=DataW.trod_int Tryz.underlying3 t1
   obtain⟨pi,e3,_,w3⟩:=DataW.trod_int Tryz.underlying3 s2
   obtain⟨pw,e4,_,w4⟩:=DataW.trod_int Tryz.underlying3 s3
   simp[qAT,qsq,qzy,qzC] at e0 e1 e2 e3 e4
   refine⟨⟨pn,pd,pk,pi,pw⟩,⟨?_,?_,?_,?_,?_⟩,qBy w0,qBy w1⟩
   ·have:=hat 0 (by omega);rw[add_add] at this;simpa [e0] using this
   ·have:=hat 1 (by omega);rw[add_add] at this;simpa [e1] using this
   ·have:=hat 2 (by omega);rw[add_add] at this;simpa [e2] using this
   ·have:=hat 3 (by omega);rw[add_add] at this;simpa [e3] using this
   ·have:=hat 4 (by omega);rw[add_add] at this;simpa [e4] using this
 haveI:Inhabited Ev:=⟨⟨0,0,0,0,0⟩⟩
 obtain⟨f,hf⟩:=choose_lt (α:=Ev) each
 refine⟨_,(List.range len).map f,rfl,⟨qa7 _,some a,cap,by simp,by simpa using hlc,fun j v hv=>?_⟩,fun p hp=>?_⟩
 ·obtain⟨hk,he⟩:=qAC f len j v hv
  obtain⟨c0,c1,c2,c3,c4⟩:=(hf _ hk).1
  have hcell:W.cell? (a.add j)=some v:=by
   have h5:j%5=0∨j%5=1∨j%5=2∨j%5=3∨j%5=4:=by omega
   have e:j=j/5*5+j%5:=by omega
   rcases h5 with e3 | e3 | e3 | e3 | e3<;>rw[e3] at he e<;>rw[e]<;>simp at he<;>subst he
   ·exact c0
   ·exact c1
   ·exact c2
   ·exact c3
   ·exact c4
  obtain⟨b,off,spot⟩:=a
  have hs:spot=none:=by simpa [Addr.add] using World.cell?_spot (hf 0 (by omega)).1.1
  subst hs
  exact⟨b,off,rfl,by rw[← Go.WideShapes.add_plain];exact hcell⟩
 ·obtain⟨i,hi',rfl⟩:=List.mem_map.1 hp
  exact (hf i (List.mem_range.1 hi')).2
end
end Go.Proofs.YtkjaanhddkkodaaGreat

namespace Go.Proofs.YtkjaanhddkkodaaGreat
set_option maxRecDepth 100000
open Go.RowKit
theorem qp5 {u fr wh:List Int} {b:List Bool} {ev:List Ev} {hi hw:Int} (hc:Fn 77 5 [agA u b fr ev wh] [(0,0,zrI u),(1,0,zrB b),(2,0,zrI fr),(3,0,qas ev),(4,0,zrI wh)] (.pv (iV (0))) 0 []) (hl:Fn 132 3 [.ag [.ls 0 u.length,.ls 1 b.length,.ls 2 fr.length],.pv (qaJ hi hw)] [(0,0,zrI u),(1,0,zrB b),(2,0,zrI fr)] (.pv (.bool false)) 0 []) :
 Fn 78 5 [agA u b fr ev wh,.pv (qaJ hi hw)] [(0,0,zrI u),(1,0,zrB b),(2,0,zrI fr),(3,0,qas ev),(4,0,zrI wh)] (.pv (.tuple #[.agg #[iV 0,iV 0,iV 0,iV 0,iV 0],iV 6])) 0 []:=
 Fz [] [Cf hc [0,1,2,3,4],.k,Cf hl [0,1,2],.k]
  tI (Co hc [0,1,2,3,4] 8 (Co hl [0,1,2] 8 tI))
theorem qBp {u fr wh:List Int} {b:List Bool} {ev:List Ev} {x:Ev} {hi hw:Int} {j:Nat} (hc:Fn 77 5 [agA u b fr ev wh] [(0,0,zrI u),(1,0,zrB b),(2,0,zrI fr),(3,0,qas ev),(4,0,zrI wh)] (.pv (iV (0))) 0 []) (hl:Fn 132 3 [.ag [.ls 0 u.length,.ls 1 b.length,.ls 2 fr.length],.pv (qaJ hi hw)] [(0,0,zrI u),(1,0,zrB b),(2,0,zrI fr)] (.pv (.bool true)) 0 []) (hiw:0≤hi∧hi<(wh.length:Int)) (hw_:wh[hi.toNat]?=some (j:Int)) (hij:0≤(j:Int)∧(j:Int)<(ev.length:Int)) (hx:ev[j]?=some x) :
 Fn 78 5 [agA u b fr ev wh,.pv (qaJ hi hw)] [(0,0,zrI u),(1,0,zrB b),(2,0,zrI fr),(3,0,qas ev),(4,0,zrI wh)] (.pv (.tuple #[qab x,iV 0])) 0 []:=
 Fz [] [Cf hc [0,1,2,3,4],.k,Cf hl [0,1,2],.k,.md,.r (iV (j:Int)),.r (qab x)]
  tI (Co hc [0,1,2,3,4] 8 (Co hl [0,1,2] 8 (Ai hiw (Ai (qe4 hw_) (Ai hij (Ai (qbe hx) tI))))))
end Go.Proofs.YtkjaanhddkkodaaGreat

namespace Go.Proofs.YtkjaanhddkkodaaGreat
set_option maxRecDepth 100000
open Go.RowKit
section
variable {u fr wh:List Int} {b:List Bool} {ev:List Ev}
theorem qlQ {hi hw:Int} (h:VA u b fr ev wh) (hl:¬ Live u b hi hw):Fn 78 5 [agA u b fr ev wh,.pv (qaJ hi hw)] (agP u b fr ev wh) (.pv (.tuple #[evZ,iV 6])) 0 []:=qp5 (hc:=qee h) (hl:=qjJ h.vd hl)
theorem qk8 {hi hw:Int} {j:Nat} {x:Ev} (h:VA u b fr ev wh) (hl:Live u b hi hw) (hj:wh[hi.toNat]?=some (j:Int)) (hx:ev[j]?=some x):Fn 78 5 [agA u b fr ev wh,.pv (qaJ hi hw)] (agP u b fr ev wh) (.pv (.tuple #[qab x,iV 0])) 0 []:=by
 have:=(List.getElem?_eq_some_iff.1 hj).1
 have:=(List.getElem?_eq_some_iff.1 hx).1
 have:=hl.lo
 exact qBp (hc:=qee h) (hl:=qg8 h.vd hl) (hiw:=by omega) (hw_:=hj) (hij:=by omega) (hx:=hx)
end
end Go.Proofs.YtkjaanhddkkodaaGreat

namespace Go.Proofs.YtkjaanhddkkodaaGreat
set_option maxRecDepth 100000
open Go.RowKit
def ql4:Int→List P2→List P2→List Ev
 | i,r::rs,h::hs=>⟨r.a,r.b,i,h.a,h.b⟩::ql4 (i+1) rs hs
 | _,_,_=>[]
theorem qhU:∀ (i:Int) (rs hs:List P2) (r h:P2),rs.length=hs.length→ql4 i (rs++[r]) (hs++[h])=ql4 i rs hs++[⟨r.a,r.b,i+(rs.length:Int),h.a,h.b⟩]
 | i,[],[],r,h,_=>by simp[ql4]
 | i,[],_::_,r,h,e=>by simp at e
 | i,_::_,[],r,h,e=>by simp at e
 | i,a::rs,c::hs,r,h,e=>by
  have:=qhU (i+1) rs hs r h (by simpa using e)
  simp only[List.cons_append,ql4,this,List.length_cons]
  congr 3
  congr 1
  omega
theorem qsE:∀ {i:Int} {rs hs:List P2} {x:Ev},x∈ql4 i rs hs→i≤x.k∧x.k<i+(rs.length:Int)
 | i,[],_,x,h=>by simp[ql4] at h
 | i,_::_,[],x,h=>by simp[ql4] at h
 | i,r::rs,c::hs,x,h=>by
  simp only[ql4,List.mem_cons] at h
  rcases h with rfl | h
  ·simp only[List.length_cons];omega
  ·have:=qsE h
   simp only[List.length_cons];omega
structure FS (rs:List P2) (k:Nat) (u:List Int) (b:List Bool) (fr:List Int) (ev:List Ev) (wh:List Int) (hv:List P2):Prop where
 va:VA u b fr ev wh
 len:hv.length=k
 ul:u.length=50
 ub:∀ y∈u,y≤(k:Int)
 perm:ev.Perm (ql4 0 (rs.take k) hv)
 live:∀ h∈hv,Live u b h.a h.b
def qFL (rs:List P2):Prop:=∀ r∈rs,(I64 r.a∧I64 r.b)∧okB r.a r.b=true
theorem FS.step {rs:List P2} {k:Nat} {u:List Int} {b:List Bool} {fr:List Int} {ev:List Ev} {wh:List Int} {hv:List P2} (h:FS rs k u b fr ev wh hv) (ho:qFL rs) (hk:k<rs.length) (hl:rs.length≤30) {ra:P2} (hr:rs[k]?=some ra) :
 ∃ u2 b2 f2 hi hw,qbB u b fr=some (u2,b2,f2,hi,hw)∧cnE ev (k:Int)=0∧FS rs (k+1) u2 b2 f2 (qa6 ev wh ⟨ra.a,ra.b,(k:Int),hi,hw⟩).1 (qa6 ev wh ⟨ra.a,ra.b,(k:Int),hi,hw⟩).2 (hv++[⟨hi,hw⟩]):=by
 obtain⟨ht,h0⟩:=ho ra (List.mem_of_getElem? hr)
 have hcnt:=h.va.vd.count
 have hel:ev.length=k:=by
  have h1:=h.perm.length_eq
  have:∀ (i:Int) (rs hs:List P2),rs.length=hs.length→(ql4 i rs hs).length=hs.length:=by
   intro i rs hs
   induction rs generalizing i hs with
   | nil=>intro e;cases hs with
    | nil=>rfl
    | cons a r=>simp at e
   | cons a r ih=>intro e;cases hs with
    | nil=>simp at e
    | cons c q=>simp only[ql4,List.length_cons];rw[ih (i+1) q (by simpa using e)]
  rw[this 0 (rs.take k) hv (by rw[List.length_take,h.len];omega),h.len] at h1
  exact h1
 have hc2:=h.va.wf.cnt
 have hul:=h.ul
 have hne:fr≠[]:=fun e=>by rw[e] at hcnt;simp at hcnt;omega
 have hlast:=List.getLast?_eq_some_getLast hne
 generalize fr.getLast hne=hi at hlast
 have hin:=h.va.vd.rng hi (by obtain⟨e,_,_⟩:=qbR hlast;rw[e];simp)
 have hy:u[hi.toNat]?=some (u[hi.toNat]'(by omega)):=List.getElem?_eq_getElem (by omega)
 generalize u[hi.toNat]'(by omega)=y at hy
 have hyb:=h.ub y (List.mem_of_getElem? hy)
 have htk:qbB u b fr=some (u.set hi.toNat (y+1),b.set hi.toNat true,fr.dropLast,hi,y+1):=by
  unfold qbB
  simp only[hlast,hy]
  rw[if_neg (by omega)]
 have hcn:cnE ev (k:Int)=0:=by
  unfold cnE
  rw[if_pos (by omega),if_neg]
  rintro⟨m,hm,e⟩
  have:=qsE (h.perm.mem_iff.1 hm)
  rw[List.length_take] at this
  omega
 obtain⟨v1,v2,v3,v4⟩:=h.va.push (z:=(k:Int)) ht h0 hcn htk
 refine⟨_,_,_,_,_,htk,hcn,v1,by simp[h.len],by rw[List.length_set];exact hul,fun q hq=>?_,?_,fun q hq=>?_⟩
 ·rcases List.mem_or_eq_of_mem_set hq with hq | hq
  ·have:=h.ub q hq;omega
  ·omega
 ·rw[List.take_add_one,hr]
  have e:=qhU 0 (rs.take k) hv ra ⟨hi,y+1⟩ (by rw[List.length_take,h.len];omega)
  rw[show (some ra).toList=[ra] from rfl,e,List.length_take,show (0:Int)+((min k rs.length:Nat):Int)=(k:Int) by omega]
  exact v2.trans (h.perm.append_right _)
 ·rcases List.mem_append.1 hq with hq | hq
  ·exact v4 _ _ (h.live q hq)
  ·rw[List.mem_singleton] at hq
   subst hq
   exact v3
theorem VA.new {n:Nat} (h1:1≤n) (h2:n≤200):VA (List.replicate n 0) (List.replicate n false) (qd7 n) [] (List.replicate n (-1)):=by
 refine VA.of (Vd.new h1 h2) (by simp) (fun j x hx=>by simp at hx) (fun x hx=>by simp at hx) (fun k hk=>?_) (fun k hk=>?_) (by simp[List.count_replicate]) (fun x hx=>by simp at hx) (by simp) (fun k _ x y hx=>by simp at hx)
 ·have:=List.eq_of_mem_replicate (List.mem_of_getElem? hk)
  cases this
 ·have:=(List.getElem?_eq_some_iff.1 hk).1
  simp at this
  simp[this]
end Go.Proofs.YtkjaanhddkkodaaGreat

namespace Go.Proofs.YtkjaanhddkkodaaGreat
set_option maxRecDepth 100000
open Go.RowKit
section
variable {u fr wh:List Int} {b:List Bool} {ev:List Ev}
theorem VA.one {x y:Ev} (h:VA u b fr ev wh) (hx:x∈ev) (hy:y∈ev) (e:x.i=y.i):x=y:=by
 obtain⟨j,hj⟩:=List.mem_iff_getElem?.1 hx
 obtain⟨k,hk⟩:=List.mem_iff_getElem?.1 hy
 have:=h.con.inj hj hk e
 subst this
 rw[hj] at hk
 exact Option.some.inj hk
theorem VA.place {x:Ev} (h:VA u b fr ev wh) (hm:x∈ev):∃ j:Nat,ev[j]?=some x∧wh[x.i.toNat]?=some (j:Int)∧Live u b x.i x.w:=by
 obtain⟨j,hj⟩:=List.mem_iff_getElem?.1 hm
 exact⟨j,hj,(h.own hj).2,(h.own hj).1⟩
section
variable {u2 f2 wh3:List Int} {b2:List Bool} {ev3:List Ev} {gi gw:Int}
end
end
end Go.Proofs.YtkjaanhddkkodaaGreat

namespace Go.Proofs.YtkjaanhddkkodaaGreat
set_option maxRecDepth 100000
open Go.RowKit
structure Ck where
 tn:Int
 td:Int
 s:List Pt
 x:Int
 l:List Pt
 u:List Int
 b:List Bool
 fr:List Int
 ev:List Ev
 wh:List Int
 d:List Pt
abbrev qaS (l:List Pt):SV:=.row 54 3 l.length (qbm l)
abbrev qap (c:Ck):SV:=.ag [.pv (iV c.tn),.pv (iV c.td),.ls 0 c.s.length,.pv (iV c.x),.ls 1 c.l.length,.ls 2 c.u.length,.ls 3 c.b.length,.ls 4 c.fr.length,.ls 5 c.ev.length,.ls 6 c.wh.length,.ls 7 c.d.length]
abbrev qat (c:Ck):List (Nat×Nat×SV):=[(0,0,qal c.s),(1,0,qam c.l),(2,0,zrI c.u),(3,0,zrB c.b),(4,0,zrI c.fr),(5,0,qas c.ev),(6,0,zrI c.wh),(7,0,qaS c.d)]
abbrev qbI (k:Nat) (c:Ck):List (Nat×Nat×SV):=[(k,0,.pv (iV c.tn)),(k,1,.pv (iV c.td)),(k,2,.ls 0 c.s.length),(k,3,.pv (iV c.x)),(k,4,.ls 1 c.l.length),(k,5,.ls 2 c.u.length),(k,6,.ls 3 c.b.length),(k,7,.ls 4 c.fr.length),(k,8,.ls 5 c.ev.length),(k,9,.ls 6 c.wh.length),(k,10,.ls 7 c.d.length),(0,0,qal c.s),(1,0,qam c.l),(2,0,zrI c.u),(3,0,zrB c.b),(4,0,zrI c.fr),(5,0,qas c.ev),(6,0,zrI c.wh),(7,0,qaS c.d)]
abbrev qhC (c:Ck):S1:=.ag [.pv (iV c.tn),.pv (iV c.td),.ls 8 c.s.length,.pv (iV c.x),.ls 9 c.l.length,.ls 10 c.u.length,.ls 11 c.b.length,.ls 12 c.fr.length,.ls 13 c.ev.length,.ls 14 c.wh.length,.ls 15 c.d.length]
abbrev qyl (c:Ck):SV:=.ag [.pv (iV c.tn),.pv (iV c.td),.ls 8 c.s.length,.pv (iV c.x),.ls 9 c.l.length,.ls 10 c.u.length,.ls 11 c.b.length,.ls 12 c.fr.length,.ls 13 c.ev.length,.ls 14 c.wh.length,.ls 15 c.d.length]
abbrev qdu (c:Ck):List (Nat×Nat×SV):=[(8,0,qal c.s),(9,0,qam c.l),(10,0,zrI c.u),(11,0,zrB c.b),(12,0,zrI c.fr),(13,0,qas c.ev),(14,0,zrI c.wh),(15,0,qaS c.d)]
abbrev qcA:Value:=.agg #[iV 0,iV 0,.slice none 0 0,iV 0,.slice none 0 0,.slice none 0 0,.slice none 0 0,.slice none 0 0,.slice none 0 0,.slice none 0 0,.slice none 0 0]
end Go.Proofs.YtkjaanhddkkodaaGreat

namespace Go.Proofs.YtkjaanhddkkodaaGreat
set_option maxRecDepth 100000
open Go.RowKit
abbrev qvN (l:List P2):SV:=.row 48 2 l.length (p2V l)
abbrev qBX (o:Ck):S1:=.ag [.pv (iV o.tn),.pv (iV o.td),.ls 2 o.s.length,.pv (iV o.x),.ls 3 o.l.length,.ls 4 o.u.length,.ls 5 o.b.length,.ls 6 o.fr.length,.ls 7 o.ev.length,.ls 8 o.wh.length,.ls 9 o.d.length]
abbrev qFP (o:Ck):List (Nat×Nat×SV):=[(2,0,qal o.s),(3,0,qam o.l),(4,0,zrI o.u),(5,0,zrB o.b),(6,0,zrI o.fr),(7,0,qas o.ev),(8,0,zrI o.wh),(9,0,qaS o.d)]
abbrev qcB (n:Int):List Pt:=[Pt.mk 1 0 2,Pt.mk 2 6 (-1),Pt.mk 5 0 n]
theorem qzd {n:Int} :
 Pure Tryz.prog 13 #[iV n] (qaa n 1):=
 qad (args:=[iV n]) 300 []
  (Ai rfl tI) (by kernel_rfl)
theorem qFi {n:Int} :
 Fn 11 0 [.pv (iV (n))] [] (.ag [.ls 0 3]) 1 [(0,0,qal (qcB n))]:=
 Fz [(0,1)] [.lw]
  (qaI (qaM [(0,1)]) [(0,0,qal (qcB n))]) tI
abbrev qBw (l:List P2) (o:Ck):HpL:=[(1,0,qvN l),(4,0,.pv (iV 0)),(4,1,.pv (iV 0)),(4,2,.pv (.slice none 0 0)),(4,3,.pv (iV 0)),(4,4,.pv (.slice none 0 0)),(4,5,.pv (.slice none 0 0)),(4,6,.pv (.slice none 0 0)),(4,7,.pv (.slice none 0 0)),(4,8,.pv (.slice none 0 0)),(4,9,.pv (.slice none 0 0)),(4,10,.pv (.slice none 0 0)),(13,0,.pv (iV o.tn)),(13,1,.pv (iV o.td)),(13,2,.ls 5 o.s.length),(13,3,.pv (iV o.x)),(13,4,.ls 11 o.l.length),(13,5,.ls 6 o.u.length),(13,6,.ls 7 o.b.length),(13,7,.ls 8 o.fr.length),(13,8,.ls 10 o.ev.length),(13,9,.ls 9 o.wh.length),(13,10,.ls 12 o.d.length),(5,0,qal o.s),(11,0,qam o.l),(6,0,zrI o.u),(7,0,zrB o.b),(8,0,zrI o.fr),(10,0,qas o.ev),(9,0,zrI o.wh),(12,0,qaS o.d)]
abbrev qEA (k:Nat) (l:List P2):TmL:=[(2,.ls 1 l.length),(6,.pp 4 0),(8,.pp 13 0),(10,.pv (iV (k:Int)))]
theorem qzL {o o1:Ck} {l:List P2} {k:Nat} {n:Int} {g:P2} (hk:l[k]?=some g) (hin:0≤(k:Int)∧(k:Int)<(l.length:Int)) (hlt:decide ((k:Int)<(l.length:Int))=true) (hc:Fn 16 8 [qap o,.pv (qag g.a g.b)] (qat o) (.tu [qhC o1,.one (.pv (iV n)),.one (.pv (iV 0))]) 8 (qdu o1)) (hs:iV (IntKind.i64.wrap ((k:Int)+1))=iV (((k+1:Nat):Int))) {e:Exit} {tm2:TmL} {hp2:HpL}
 (r:Rl 2 2 12 0 46 14 ([(2,.ls 1 l.length),(6,.pp 4 0),(8,.pp 13 0),(10,.pv (iV ((k+1:Nat):Int)))]) ([(1,0,qvN l),(4,0,.pv (iV 0)),(4,1,.pv (iV 0)),(4,2,.pv (.slice none 0 0)),(4,3,.pv (iV 0)),(4,4,.pv (.slice none 0 0)),(4,5,.pv (.slice none 0 0)),(4,6,.pv (.slice none 0 0)),(4,7,.pv (.slice none 0 0)),(4,8,.pv (.slice none 0 0)),(4,9,.pv (.slice none 0 0)),(4,10,.pv (.slice none 0 0)),(13,0,.pv (iV o1.tn)),(13,1,.pv (iV o1.td)),(13,2,.ls 5 o1.s.length),(13,3,.pv (iV o1.x)),(13,4,.ls 11 o1.l.length),(13,5,.ls 6 o1.u.length),(13,6,.ls 7 o1.b.length),(13,7,.ls 8 o1.fr.length),(13,8,.ls 10 o1.ev.length),(13,9,.ls 9 o1.wh.length),(13,10,.ls 12 o1.d.length),(5,0,qal o1.s),(11,0,qam o1.l),(6,0,zrI o1.u),(7,0,zrB o1.b),(8,0,zrI o1.fr),(10,0,qas o1.ev),(9,0,zrI o1.wh),(12,0,qaS o1.d)]) e tm2 hp2):Rl 2 2 12 0 46 14 (qEA k l) (qBw l o) e tm2 hp2:=
 RunsL.next [(5,14),(11,15),(6,16),(7,17),(8,18),(10,19),(9,20),(12,21)] 300 [.t true,.md,.r (qag g.a g.b),Cf hc [5,11,6,7,8,10,9,12],.k,Re hs]
  (Ro (Ai hlt (Ai hin (Ai (qEX hk) (Co hc [5,11,6,7,8,10,9,12] 14 (Ai hs tI)))))) r
theorem qs6 {o:Ck} {l:List P2} {k:Nat} {z:Int} {g:P2} (hk:l[k]?=some g) (hin:0≤(k:Int)∧(k:Int)<(l.length:Int)) (hlt:decide ((k:Int)<(l.length:Int))=true) (hc:Fn 16 8 [qap o,.pv (qag g.a g.b)] (qat o) (.pv (.tuple #[qcA,iV 0,iV z])) 0 []) (he:(z==0)=false) (hs:iV (IntKind.i64.wrap ((k:Int)+1))=iV (((k+1:Nat):Int))) {e:Exit} {tm2:TmL} {hp2:HpL}
 (r:Rl 2 2 12 0 46 14 ([(2,.ls 1 l.length),(6,.pp 4 0),(8,.pp 13 0),(10,.pv (iV ((k+1:Nat):Int)))]) (qBw l o) e tm2 hp2):Rl 2 2 12 0 46 14 (qEA k l) (qBw l o) e tm2 hp2:=
 RunsL.next [] 300 [.t true,.md,.r (qag g.a g.b),Cf hc [5,11,6,7,8,10,9,12],.t false,Re hs]
  (Ro (Ai hlt (Ai hin (Ai (qEX hk) (Co hc [5,11,6,7,8,10,9,12] 14 (Ai he (Ai hs tI))))))) r
abbrev qE6 (o:Ck):HpL:=[(4,0,.pv (iV 0)),(4,1,.pv (iV 0)),(4,2,.pv (.slice none 0 0)),(4,3,.pv (iV 0)),(4,4,.pv (.slice none 0 0)),(4,5,.pv (.slice none 0 0)),(4,6,.pv (.slice none 0 0)),(4,7,.pv (.slice none 0 0)),(4,8,.pv (.slice none 0 0)),(4,9,.pv (.slice none 0 0)),(4,10,.pv (.slice none 0 0)),(13,0,.pv (iV o.tn)),(13,1,.pv (iV o.td)),(13,2,.ls 5 o.s.length),(13,3,.pv (iV o.x)),(13,4,.ls 11 o.l.length),(13,5,.ls 6 o.u.length),(13,6,.ls 7 o.b.length),(13,7,.ls 8 o.fr.length),(13,8,.ls 10 o.ev.length),(13,9,.ls 9 o.wh.length),(13,10,.ls 12 o.d.length),(5,0,qal o.s),(11,0,qam o.l),(6,0,zrI o.u),(7,0,zrB o.b),(8,0,zrI o.fr),(10,0,qas o.ev),(9,0,zrI o.wh),(12,0,qaS o.d)]
theorem qtH {o:Ck} {l:List P2} {k:Nat} (hge:decide ((k:Int)<(l.length:Int))=false):Rl 2 2 12 0 46 14 (qEA k l) (qBw l o) (.exit 0) ([(6,.pp 4 0),(8,.pp 13 0)]) (qE6 o):=
 RunsL.stop [] 300 [.t false] (fun h=>by cases h)
  (Ro (Ai hge tI))
theorem qqj {c o:Ck} {s:List Pt} {l:List P2} {tn td:Int} (hn:Fn 10 1 [qaB 0 s,.pv (qaa tn td)] [(0,0,qal s)] (.tu [.ag [.pv (iV c.tn),.pv (iV c.td),.ls 1 c.s.length,.pv (iV 0),.ls 7 0,.ls 2 c.u.length,.ls 3 c.b.length,.ls 4 c.fr.length,.ls 6 0,.ls 5 c.wh.length,.ls 8 0],.one (.pv (iV 0))]) 8 [(8,0,qaS []),(7,0,qam []),(1,0,qal c.s),(2,0,zrI c.u),(3,0,zrB c.b),(4,0,zrI c.fr),(5,0,zrI c.wh),(6,0,qas [])]) (r0:Rl 2 2 12 0 46 14 ([(2,.ls 1 l.length),(6,.pp 4 0),(8,.pp 13 0),(10,.pv (iV ((0:Nat):Int)))]) ([(1,0,qvN l),(4,0,.pv (iV 0)),(4,1,.pv (iV 0)),(4,2,.pv (.slice none 0 0)),(4,3,.pv (iV 0)),(4,4,.pv (.slice none 0 0)),(4,5,.pv (.slice none 0 0)),(4,6,.pv (.slice none 0 0)),(4,7,.pv (.slice none 0 0)),(4,8,.pv (.slice none 0 0)),(4,9,.pv (.slice none 0 0)),(4,10,.pv (.slice none 0 0)),(13,0,.pv (iV (Ck.mk c.tn c.td c.s 0 [] c.u c.b c.fr [] c.wh []).tn)),(13,1,.pv (iV (Ck.mk c.tn c.td c.s 0 [] c.u c.b c.fr [] c.wh []).td)),(13,2,.ls 5 (Ck.mk c.tn c.td c.s 0 [] c.u c.b c.fr [] c.wh []).s.length),(13,3,.pv (iV (Ck.mk c.tn c.td c.s 0 [] c.u c.b c.fr [] c.wh []).x)),(13,4,.ls 11 (Ck.mk c.tn c.td c.s 0 [] c.u c.b c.fr [] c.wh []).l.length),(13,5,.ls 6 (Ck.mk c.tn c.td c.s 0 [] c.u c.b c.fr [] c.wh []).u.length),(13,6,.ls 7 (Ck.mk c.tn c.td c.s 0 [] c.u c.b c.fr [] c.wh []).b.length),(13,7,.ls 8 (Ck.mk c.tn c.td c.s 0 [] c.u c.b c.fr [] c.wh []).fr.length),(13,8,.ls 10 (Ck.mk c.tn c.td c.s 0 [] c.u c.b c.fr [] c.wh []).ev.length),(13,9,.ls 9 (Ck.mk c.tn c.td c.s 0 [] c.u c.b c.fr [] c.wh []).wh.length),(13,10,.ls 12 (Ck.mk c.tn c.td c.s 0 [] c.u c.b c.fr [] c.wh []).d.length),(5,0,qal (Ck.mk c.tn c.td c.s 0 [] c.u c.b c.fr [] c.wh []).s),(11,0,qam (Ck.mk c.tn c.td c.s 0 [] c.u c.b c.fr [] c.wh []).l),(6,0,zrI (Ck.mk c.tn c.td c.s 0 [] c.u c.b c.fr [] c.wh []).u),(7,0,zrB (Ck.mk c.tn c.td c.s 0 [] c.u c.b c.fr [] c.wh []).b),(8,0,zrI (Ck.mk c.tn c.td c.s 0 [] c.u c.b c.fr [] c.wh []).fr),(10,0,qas (Ck.mk c.tn c.td c.s 0 [] c.u c.b c.fr [] c.wh []).ev),(9,0,zrI (Ck.mk c.tn c.td c.s 0 [] c.u c.b c.fr [] c.wh []).wh),(12,0,qaS (Ck.mk c.tn c.td c.s 0 [] c.u c.b c.fr [] c.wh []).d)]) (.exit 0) ([(6,.pp 4 0),(8,.pp 13 0)]) (qE6 o)) (hck:Fn 31 8 [qap o] (qat o) (.pv (iV (0))) 0 []) :
 Fn 12 2 [qaB 0 s,.pv (qaa tn td),.ls 1 l.length] [(0,0,qal s),(1,0,qvN l)] (.tu [qBX o,.one (.pv (.bool true))]) 8 [(2,0,qal o.s),(3,0,qam o.l),(4,0,zrI o.u),(5,0,zrB o.b),(6,0,zrI o.fr),(7,0,qas o.ev),(8,0,zrI o.wh),(9,0,qaS o.d)]:=
 Fz [(2,5),(3,11),(4,6),(5,7),(6,8),(7,10),(8,9),(9,12)] [Cf hn [0],.k,Lf r0,Cf hck [5,11,6,7,8,10,9,12],.k]
  (qaI (qaM [(2,5),(3,11),(4,6),(5,7),(6,8),(7,10),(8,9),(9,12)]) [(2,0,qal o.s),(3,0,qam o.l),(4,0,zrI o.u),(5,0,zrB o.b),(6,0,zrI o.fr),(7,0,qas o.ev),(8,0,zrI o.wh),(9,0,qaS o.d)]) (Co hn [0] 5 (Lo r0 [] (Co hck [5,11,6,7,8,10,9,12] 14 tI)))
theorem qm1 {c o o1:Ck} {y z9:Ev} {p:Pt} (hg0:Fn 11 0 [.pv (iV (0))] [] (.ag [.ls 0 3]) 1 [(0,0,qal (qcB 0))]) (hat1:Pure Tryz.prog 13 #[iV 1] (qaa 1 1)) (hce:Fn 12 2 [qaB 0 (qcB 0),.pv (qaa 1 1),.ls 1 3] [(0,0,qal (qcB 0)),(1,0,qvN [P2.mk 1 2,P2.mk 5 2,P2.mk 5 1])] (.tu [qBX c,.one (.pv (.bool true))]) 8 [(2,0,qal c.s),(3,0,qam c.l),(4,0,zrI c.u),(5,0,zrB c.b),(6,0,zrI c.fr),(7,0,qas c.ev),(8,0,zrI c.wh),(9,0,qaS c.d)]) (hat4:Pure Tryz.prog 13 #[iV 4] (qaa 4 1)) (hf1:Fn 19 8 [qap c,.pv (qaa 4 1)] (qat c) (.tu [qhC o,.one (.pv (qab y)),.one (.pv (qag p.a p.b)),.one (.pv (iV 0))]) 8 (qdu o)) (hf2:Fn 19 8 [qap o,.pv (qaa 4 1)] (qat o) (.pv (.tuple #[qcA,.agg #[iV 0,iV 0,iV 0,iV 0,iV 0],qag 0 0,iV 6])) 0 []) (hat6:Pure Tryz.prog 13 #[iV 6] (qaa 6 1)) (hmv:Fn 20 8 [qap o,.pv (qaa 6 1)] (qat o) (.pv (.tuple #[qcA,iV 36])) 0 []) (hg1:Fn 11 0 [.pv (iV (1))] [] (.ag [.ls 0 3]) 1 [(0,0,qal (qcB 1))]) (hal1:Fn 21 9 [qap o,qaB 8 (qcB 1)] [(0,0,qal o.s),(1,0,qam o.l),(2,0,zrI o.u),(3,0,zrB o.b),(4,0,zrI o.fr),(5,0,qas o.ev),(6,0,zrI o.wh),(7,0,qaS o.d),(8,0,qal (qcB 1))] (.tu [.ag [.pv (iV o.tn),.pv (iV o.td),.ls 9 3,.pv (iV o.x),.ls 10 o.l.length,.ls 11 o1.u.length,.ls 12 o1.b.length,.ls 13 o1.fr.length,.ls 14 o1.ev.length,.ls 15 o1.wh.length,.ls 16 o1.d.length],.one (.pv (iV 0))]) 8 [(9,0,qal (qcB 1)),(10,0,qam o.l),(11,0,zrI o1.u),(12,0,zrB o1.b),(13,0,zrI o1.fr),(14,0,qas o1.ev),(15,0,zrI o1.wh),(16,0,qaS o1.d)]) (hnx:Fn 18 8 [qap ({ o1 with tn:=o.tn,td:=o.td,s:=qcB 1,x:=o.x,l:=o.l }:Ck)] (qat ({ o1 with tn:=o.tn,td:=o.td,s:=qcB 1,x:=o.x,l:=o.l }:Ck)) (.pv (.tuple #[qab z9,iV 0])) 0 []) (t1:((c.d.length:Int)==2)=true) (hat2:Pure Tryz.prog 13 #[iV 2] (qaa 2 1)) (t2:(y.n==2&&(y.d==1&&true))=true) (t3:(p.a==1&&(p.b==2&&true))=true) (t4:(o.tn==2&&(o.td==1&&true))=true) (hat3:Pure Tryz.prog 13 #[iV 3] (qaa 3 1)) (t5:(z9.n==3&&(z9.d==1&&true))=true) (t6:(z9.k==1)=true) :
 Fn 24 0 [] [] (.pv (.bool true)) 0 []:=
 qbi 900 [] [Cf hg0 [],Rf hat1,.lw,Cf hce [0,1],.md,Rf hat4,Cf hf1 [2,3,4,5,6,7,8,9],Rf hat4,Cf hf2 [11,12,13,14,15,16,17,18],Rf hat6,Cf hmv [11,12,13,14,15,16,17,18],.md,Cf hg1 [],Cf hal1 [11,12,13,14,15,16,17,18,26],Cf hnx [27,28,29,30,31,32,33,34],.t true,.k,Rf hat2,.t true,.t true,Rf hat2,.t true,.k,.k,.k,.k,Rf hat3,.t true,.t true]
  tI (Co hg0 [] 0 (Ai hat1 (Co hce [0,1] 2 (Ai hat4 (Co hf1 [2,3,4,5,6,7,8,9] 11 (Ai hat4 (Co hf2 [11,12,13,14,15,16,17,18] 22 (Ai hat6 (Co hmv [11,12,13,14,15,16,17,18] 25 (Co hg1 [] 26 (Co hal1 [11,12,13,14,15,16,17,18,26] 27 (Co hnx [27,28,29,30,31,32,33,34] 36 (Ai t1 (Ai hat2 (Ai t2 (Ai t3 (Ai hat2 (Ai t4 (Ai hat3 (Ai t5 (Ai t6 tI))))))))))))))))))))) (by kernel_rfl)
end Go.Proofs.YtkjaanhddkkodaaGreat

namespace Go.Proofs.YtkjaanhddkkodaaGreat
set_option maxRecDepth 100000
open Go.RowKit
theorem wn9 {s:List Pt} {q g:Pt} {i j:Nat} {n a b tn td z:Int} {w:Bool} (hg:s[i]?=some g) (hq:s[j]?=some q) (hi:0≤(i:Int)∧(i:Int)<(s.length:Int)) (hj:0≤(j:Int)∧(j:Int)<(s.length:Int)) (ha:Fn 72 1 [qaB 0 s,.pv (iV (b))] [(0,0,qal s)] (.pv (iV (i:Int))) 0 []) (hb:Fn 72 1 [qaB 0 s,.pv (iV (a))] [(0,0,qal s)] (.pv (iV (j:Int))) 0 []) (hl:Pure Tryz.prog 83 #[ptV g,ptV q,qaa tn td] (.tuple #[qaa n z,.bool w])) :
 Fn 39 1 [qaB 0 s,.pv (qag a b),.pv (qaa tn td)] [(0,0,qal s)] (.pv (.tuple #[qaa n z,.bool w])) 0 []:=
 Fz [] [Cf ha [0],.r (ptV g),Cf hb [0],.r (ptV q),Rf hl]
  tI (Co ha [0] 5 (Ai hi (Ai (qaO hg) (Co hb [0] 5 (Ai hj (Ai (qaO hq) (Ai hl tI)))))))
theorem qjp {c:Ck} {p:Pt} {k:Nat} {n:Int} (hk:c.d[k]?=some p) (hin:0≤(k:Int)∧(k:Int)<(c.d.length:Int)) (hlt:decide ((k:Int)<(c.d.length:Int))=true) (he:(p.id==n)=false) (hs:iV (IntKind.i64.wrap ((k:Int)+1))=iV (((k+1:Nat):Int))) {e:Exit} {tm2:TmL} {hp2:HpL}
 (r:Rl 8 8 46 0 22 9 ([(1,.pv (iV n)),(2,.pp 8 0),(5,.pv (iV ((k+1:Nat):Int)))]) (qbI 8 c) e tm2 hp2):Rl 8 8 46 0 22 9 ([(1,.pv (iV n)),(2,.pp 8 0),(5,.pv (iV (k:Int)))]) (qbI 8 c) e tm2 hp2:=
 RunsL.next [] 300 [.t true,.r (iV p.id),.t false,Re hs]
  (Ro (Ai hlt (Ai hin (Ai (qjd hk) (Ai he (Ai hs tI)))))) r
theorem quy {c:Ck} {p:Pt} {k:Nat} {n:Int} (hk:c.d[k]?=some p) (hin:0≤(k:Int)∧(k:Int)<(c.d.length:Int)) (hlt:decide ((k:Int)<(c.d.length:Int))=true) (he:(p.id==n)=true):Rl 8 8 46 0 22 9 ([(1,.pv (iV n)),(2,.pp 8 0),(5,.pv (iV (k:Int)))]) (qbI 8 c) (.ret) ([(4,.pv (iV (k:Int)))]) ([]):=
 RunsL.stop [] 300 [.t true,.r (iV p.id),.t true] (fun h=>by cases h)
  (Ro (Ai hlt (Ai hin (Ai (qjd hk) (Ai he tI)))))
theorem quZ {c:Ck} {k:Nat} {n:Int} (hge:decide ((k:Int)<(c.d.length:Int))=false):Rl 8 8 46 0 22 9 ([(1,.pv (iV n)),(2,.pp 8 0),(5,.pv (iV (k:Int)))]) (qbI 8 c) (.exit 0) ([]) ([]):=
 RunsL.stop [] 300 [.t false] (fun h=>by cases h)
  (Ro (Ai hge tI))
theorem qzZ {c:Ck} {n:Int} (r0:Rl 8 8 46 0 22 9 ([(1,.pv (iV n)),(2,.pp 8 0),(5,.pv (iV ((0:Nat):Int)))]) (qbI 8 c) (.exit 0) ([]) ([])) :
 Fn 46 8 [qap c,.pv (iV (n))] (qat c) (.pv (iV (-1))) 0 []:=
 Fz [] [Lf r0]
  tI (Lo r0 [] tI)
theorem qtJ {c:Ck} {k:Nat} {n:Int} (r0:Rl 8 8 46 0 22 9 ([(1,.pv (iV n)),(2,.pp 8 0),(5,.pv (iV ((0:Nat):Int)))]) (qbI 8 c) (.ret) ([(4,.pv (iV (k:Int)))]) ([])) :
 Fn 46 8 [qap c,.pv (iV (n))] (qat c) (.pv (iV (k:Int))) 0 []:=
 Fz [] [Lf r0]
  tI (Lo r0 [] tI)
theorem qDR {c:Ck} (g1:decide ((c.l.length:Int)>40)=true) :
 Fn 26 8 [qap c] (qat c) (.pv (.bool true)) 0 []:=
 Fz [] [.t true]
  tI (Ai g1 tI)
theorem qCa {c:Ck} (g1:decide ((c.l.length:Int)>40)=false) (g2:decide ((c.d.length:Int)>40)=true) :
 Fn 26 8 [qap c] (qat c) (.pv (.bool true)) 0 []:=
 Fz [] [.t false,.t true]
  tI (Ai g1 (Ai g2 tI))
theorem qCr {c:Ck} (g1:decide ((c.l.length:Int)>40)=false) (g2:decide ((c.d.length:Int)>40)=false) (hf:Fn 25 1 [qaB 0 c.s] [(0,0,qal c.s)] (.pv (.bool true)) 0 []) :
 Fn 26 8 [qap c] (qat c) (.pv (.bool true)) 0 []:=
 Fz [] [.t false,.t false,Cf hf [0]]
  tI (Ai g1 (Ai g2 (Co hf [0] 9 tI)))
theorem qCf {c:Ck} (g1:decide ((c.l.length:Int)>40)=false) (g2:decide ((c.d.length:Int)>40)=false) (hf:Fn 25 1 [qaB 0 c.s] [(0,0,qal c.s)] (.pv (.bool false)) 0 []) (hg:Fn 68 5 [agA c.u c.b c.fr c.ev c.wh] [(0,0,zrI c.u),(1,0,zrB c.b),(2,0,zrI c.fr),(3,0,qas c.ev),(4,0,zrI c.wh)] (.pv (.bool true)) 0 []) :
 Fn 26 8 [qap c] (qat c) (.pv (.bool true)) 0 []:=
 Fz [] [.t false,.t false,Cf hf [0],Cf hg [2,3,4,5,6]]
  tI (Ai g1 (Ai g2 (Co hf [0] 9 (Co hg [2,3,4,5,6] 9 tI))))
theorem qyn {c:Ck} (g1:decide ((c.l.length:Int)>40)=false) (g2:decide ((c.d.length:Int)>40)=false) (hf:Fn 25 1 [qaB 0 c.s] [(0,0,qal c.s)] (.pv (.bool false)) 0 []) (hg:Fn 68 5 [agA c.u c.b c.fr c.ev c.wh] [(0,0,zrI c.u),(1,0,zrB c.b),(2,0,zrI c.fr),(3,0,qas c.ev),(4,0,zrI c.wh)] (.pv (.bool false)) 0 []) :
 Fn 26 8 [qap c] (qat c) (.pv (.bool false)) 0 []:=
 Fz [] [.t false,.t false,Cf hf [0],Cf hg [2,3,4,5,6]]
  tI (Ai g1 (Ai g2 (Co hf [0] 9 (Co hg [2,3,4,5,6] 9 tI))))
end Go.Proofs.YtkjaanhddkkodaaGreat

namespace Go.Proofs.YtkjaanhddkkodaaGreat
set_option maxRecDepth 100000
open Go.RowKit
abbrev qiP (c:Ck) (s:List Pt):HpL:=[(0,0,qal c.s),(1,0,qam c.l),(2,0,zrI c.u),(3,0,zrB c.b),(4,0,zrI c.fr),(5,0,qas c.ev),(6,0,zrI c.wh),(7,0,qaS c.d),(8,0,qal s)]
theorem qoD {c:Ck} {s:List Pt} {n:Int} (hft:Fn 37 8 [qap c] (qat c) (.pv (.bool false)) 0 []) (hal:Pure Tryz.prog 24 #[] (.bool true)) :
 Fn 9 9 [qap c,qaB 8 s,.pv (iV (n))] (qiP c s) (.pv (.bool true)) 0 []:=
 Fz [] [Cf hft [0,1,2,3,4,5,6,7],.k,Rf hal]
  tI (Co hft [0,1,2,3,4,5,6,7] 11 (Ai hal tI))
abbrev qoK (c:Ck):Prop:=Fn 37 8 [qap c] (qat c) (.pv (.bool true)) 0 []
theorem qnQ {c:Ck} {s:List Pt} {n:Int} (hft:qoK c) (hg:Fn 25 1 [qaB 0 s] [(0,0,qal s)] (.pv (.bool true)) 0 []) (hal:Pure Tryz.prog 24 #[] (.bool true)) :
 Fn 9 9 [qap c,qaB 8 s,.pv (iV (n))] (qiP c s) (.pv (.bool true)) 0 []:=
 Fz [] [Cf hft [0,1,2,3,4,5,6,7],.k,Cf hg [8],Rf hal]
  tI (Co hft [0,1,2,3,4,5,6,7] 11 (Co hg [8] 11 (Ai hal tI)))
abbrev qoS (s:List Pt):Prop:=Fn 25 1 [qaB 0 s] [(0,0,qal s)] (.pv (.bool false)) 0 []
theorem qml {c:Ck} {s:List Pt} {n e:Int} (hft:qoK c) (hg:qoS s) (hf:Fn 44 1 [qaB 0 s] [(0,0,qal s)] (.pv (iV (e))) 0 []) (he:(e !=0)=true) (hal:Pure Tryz.prog 24 #[] (.bool true)) :
 Fn 9 9 [qap c,qaB 8 s,.pv (iV (n))] (qiP c s) (.pv (.bool true)) 0 []:=
 Fz [] [Cf hft [0,1,2,3,4,5,6,7],.k,Cf hg [8],Cf hf [8],.t true,Rf hal]
  tI (Co hft [0,1,2,3,4,5,6,7] 11 (Co hg [8] 11 (Co hf [8] 11 (Ai he (Ai hal tI)))))
abbrev qBM (c:Ck) (m:Nat) (o:Ck) (s:List Pt) (vs:List Value):HpL:=[(8,0,qal s),(10,0,.ls 8 s.length),(19,0,.pv (iV ({ o with tn:=c.tn,td:=c.td,s:=s,x:=c.x,l:=c.l }:Ck).tn)),(19,1,.pv (iV ({ o with tn:=c.tn,td:=c.td,s:=s,x:=c.x,l:=c.l }:Ck).td)),(19,2,.ls 11 ({ o with tn:=c.tn,td:=c.td,s:=s,x:=c.x,l:=c.l }:Ck).s.length),(19,3,.pv (iV ({ o with tn:=c.tn,td:=c.td,s:=s,x:=c.x,l:=c.l }:Ck).x)),(19,4,.ls 12 ({ o with tn:=c.tn,td:=c.td,s:=s,x:=c.x,l:=c.l }:Ck).l.length),(19,5,.ls 13 ({ o with tn:=c.tn,td:=c.td,s:=s,x:=c.x,l:=c.l }:Ck).u.length),(19,6,.ls 14 ({ o with tn:=c.tn,td:=c.td,s:=s,x:=c.x,l:=c.l }:Ck).b.length),(19,7,.ls 15 ({ o with tn:=c.tn,td:=c.td,s:=s,x:=c.x,l:=c.l }:Ck).fr.length),(19,8,.ls 16 ({ o with tn:=c.tn,td:=c.td,s:=s,x:=c.x,l:=c.l }:Ck).ev.length),(19,9,.ls 17 ({ o with tn:=c.tn,td:=c.td,s:=s,x:=c.x,l:=c.l }:Ck).wh.length),(19,10,.ls 18 ({ o with tn:=c.tn,td:=c.td,s:=s,x:=c.x,l:=c.l }:Ck).d.length),(11,0,qal ({ o with tn:=c.tn,td:=c.td,s:=s,x:=c.x,l:=c.l }:Ck).s),(12,0,qam ({ o with tn:=c.tn,td:=c.td,s:=s,x:=c.x,l:=c.l }:Ck).l),(13,0,zrI ({ o with tn:=c.tn,td:=c.td,s:=s,x:=c.x,l:=c.l }:Ck).u),(14,0,zrB ({ o with tn:=c.tn,td:=c.td,s:=s,x:=c.x,l:=c.l }:Ck).b),(15,0,zrI ({ o with tn:=c.tn,td:=c.td,s:=s,x:=c.x,l:=c.l }:Ck).fr),(16,0,qas ({ o with tn:=c.tn,td:=c.td,s:=s,x:=c.x,l:=c.l }:Ck).ev),(17,0,zrI ({ o with tn:=c.tn,td:=c.td,s:=s,x:=c.x,l:=c.l }:Ck).wh),(18,0,qaS ({ o with tn:=c.tn,td:=c.td,s:=s,x:=c.x,l:=c.l }:Ck).d),(20,0,.row 48 2 (m) (vs))]
theorem qmI {c o:Ck} {s:List Pt} {vs:List Value} {k m:Nat} {n:Int} {p:Pt} (hk:c.l[k]?=some p) (hin:0≤(k:Int)∧(k:Int)<(c.l.length:Int)) (hm:m+1≤1000000) (hlt:decide ((k:Int)<(c.l.length:Int))=true) (hs:iV (IntKind.i64.wrap ((k:Int)+1))=iV (((k+1:Nat):Int))) {e:Exit} {tm2:TmL} {hp2:HpL}
 (r:Rl 9 9 9 0 170 21 ([(3,.pp 9 0),(4,.pp 10 0),(7,.pp 19 0),(9,.ls 20 (m+1)),(10,.pv (iV ((k+1:Nat):Int))),(2,.pv (iV n))]) ((qbI 9 c++[(8,0,qal s),(10,0,.ls 8 s.length),(19,0,.pv (iV ({ o with tn:=c.tn,td:=c.td,s:=s,x:=c.x,l:=c.l }:Ck).tn)),(19,1,.pv (iV ({ o with tn:=c.tn,td:=c.td,s:=s,x:=c.x,l:=c.l }:Ck).td)),(19,2,.ls 11 ({ o with tn:=c.tn,td:=c.td,s:=s,x:=c.x,l:=c.l }:Ck).s.length),(19,3,.pv (iV ({ o with tn:=c.tn,td:=c.td,s:=s,x:=c.x,l:=c.l }:Ck).x)),(19,4,.ls 12 ({ o with tn:=c.tn,td:=c.td,s:=s,x:=c.x,l:=c.l }:Ck).l.length),(19,5,.ls 13 ({ o with tn:=c.tn,td:=c.td,s:=s,x:=c.x,l:=c.l }:Ck).u.length),(19,6,.ls 14 ({ o with tn:=c.tn,td:=c.td,s:=s,x:=c.x,l:=c.l }:Ck).b.length),(19,7,.ls 15 ({ o with tn:=c.tn,td:=c.td,s:=s,x:=c.x,l:=c.l }:Ck).fr.length),(19,8,.ls 16 ({ o with tn:=c.tn,td:=c.td,s:=s,x:=c.x,l:=c.l }:Ck).ev.length),(19,9,.ls 17 ({ o with tn:=c.tn,td:=c.td,s:=s,x:=c.x,l:=c.l }:Ck).wh.length),(19,10,.ls 18 ({ o with tn:=c.tn,td:=c.td,s:=s,x:=c.x,l:=c.l }:Ck).d.length),(11,0,qal ({ o with tn:=c.tn,td:=c.td,s:=s,x:=c.x,l:=c.l }:Ck).s),(12,0,qam ({ o with tn:=c.tn,td:=c.td,s:=s,x:=c.x,l:=c.l }:Ck).l),(13,0,zrI ({ o with tn:=c.tn,td:=c.td,s:=s,x:=c.x,l:=c.l }:Ck).u),(14,0,zrB ({ o with tn:=c.tn,td:=c.td,s:=s,x:=c.x,l:=c.l }:Ck).b),(15,0,zrI ({ o with tn:=c.tn,td:=c.td,s:=s,x:=c.x,l:=c.l }:Ck).fr),(16,0,qas ({ o with tn:=c.tn,td:=c.td,s:=s,x:=c.x,l:=c.l }:Ck).ev),(17,0,zrI ({ o with tn:=c.tn,td:=c.td,s:=s,x:=c.x,l:=c.l }:Ck).wh),(18,0,qaS ({ o with tn:=c.tn,td:=c.td,s:=s,x:=c.x,l:=c.l }:Ck).d),(20,0,.row 48 2 (m+1) (vs++[iV p.a,iV p.b]))])) e tm2 hp2):Rl 9 9 9 0 170 21 ([(3,.pp 9 0),(4,.pp 10 0),(7,.pp 19 0),(9,.ls 20 (m)),(10,.pv (iV (k:Int))),(2,.pv (iV n))]) ((qbI 9 c++(qBM c m o s vs))) e tm2 hp2:=
 RunsL.next [(20,22)] 300 [.t true,.r (qag p.a p.b),Re hs]
  (Ro (Ai hlt (Ai hin (Ai (qdr hk) (Ai hm (Ai hs tI)))))) r
theorem qwu {c o:Ck} {s:List Pt} {vs:List Value} {k m:Nat} {n:Int} (hge:decide ((k:Int)<(c.l.length:Int))=false):Rl 9 9 9 0 170 21 ([(3,.pp 9 0),(4,.pp 10 0),(7,.pp 19 0),(9,.ls 20 (m)),(10,.pv (iV (k:Int))),(2,.pv (iV n))]) ((qbI 9 c++(qBM c m o s vs))) (.exit 0) ([(3,.pp 9 0),(4,.pp 10 0),(7,.pp 19 0),(9,.ls 20 m),(2,.pv (iV n))]) ((qbI 9 c++(qBM c m o s vs))):=
 RunsL.stop [] 300 [.t false] (fun h=>by cases h)
  (Ro (Ai hge tI))
abbrev qpC (s:List Pt):Prop:=Fn 44 1 [qaB 0 s] [(0,0,qal s)] (.pv (iV (0))) 0 []
abbrev quE (c:Ck) (s:List Pt):Prop:=Fn 45 2 [qaL 0 c.x c.l,qaB 1 s] [(0,0,qam c.l),(1,0,qal s)] (.pv (.bool false)) 0 []
abbrev quK (c:Ck) (n:Int):Prop:=Fn 41 1 [qaL 0 c.x c.l,.pv (iV (n))] [(0,0,qam c.l)] (.pv (iV (-1))) 0 []
abbrev qvP (c:Ck) (n:Int):Prop:=Fn 17 8 [qap c,.pv (iV (n))] (qat c) (.pv (.tuple #[qcA,iV 6])) 0 []
abbrev qsZ (c:Ck) (s:List Pt):Prop:=Fn 21 9 [qap c,qaB 8 s] (qiP c s) (.pv (.tuple #[qcA,iV 6])) 0 []
theorem qkJ {c:Ck} {s:List Pt} {n:Int} (hft:qoK c) (hg:qoS s) (hf:qpC s) (ha:qsZ c s) (hkn:quE c s) (hr:qvP c n) (ha8:quK c n) (hal:Pure Tryz.prog 24 #[] (.bool true)) :
 Fn 9 9 [qap c,qaB 8 s,.pv (iV (n))] (qiP c s) (.pv (.bool true)) 0 []:=
 qbi 500 [] [Cf hft [0,1,2,3,4,5,6,7],.k,Cf hg [8],Cf hf [8],.k,Cf ha [0,1,2,3,4,5,6,7,8],.k,.k,.k,Cf hkn [1,8],Cf hr [0,1,2,3,4,5,6,7],.k,.k,Cf ha8 [1],.k,Rf hal]
  tI (Co hft [0,1,2,3,4,5,6,7] 11 (Co hg [8] 11 (Co hf [8] 11 (Co ha [0,1,2,3,4,5,6,7,8] 11 (Co hkn [1,8] 12 (Co hr [0,1,2,3,4,5,6,7] 12 (Co ha8 [1] 13 (Ai hal tI)))))))) (by kernel_rfl)
abbrev qtY (c:Ck) (s:List Pt):Prop:=Fn 21 9 [qap c,qaB 8 s] (qiP c s) (.pv (.tuple #[qcA,iV 18])) 0 []
theorem qi2 {c:Ck} {s:List Pt} {n:Int} (hft:qoK c) (hg:qoS s) (hf:qpC s) (ha:qtY c s) (hr:qvP c n) (ha8:quK c n) (hal:Pure Tryz.prog 24 #[] (.bool true)) :
 Fn 9 9 [qap c,qaB 8 s,.pv (iV (n))] (qiP c s) (.pv (.bool true)) 0 []:=
 qbi 500 [] [Cf hft [0,1,2,3,4,5,6,7],.k,Cf hg [8],Cf hf [8],.k,Cf ha [0,1,2,3,4,5,6,7,8],.k,.k,.k,.k,Cf hr [0,1,2,3,4,5,6,7],.k,.k,Cf ha8 [1],.k,Rf hal]
  tI (Co hft [0,1,2,3,4,5,6,7] 11 (Co hg [8] 11 (Co hf [8] 11 (Co ha [0,1,2,3,4,5,6,7,8] 11 (Co hr [0,1,2,3,4,5,6,7] 12 (Co ha8 [1] 13 (Ai hal tI))))))) (by kernel_rfl)
abbrev qEU (c:Ck) (m:Nat) (n:Int) (o:Ck) (s:List Pt) (vs:List Value):Prop:=Rl 9 9 9 0 170 21 ([(3,.pp 9 0),(4,.pp 10 0),(7,.pp 19 0),(9,.ls 20 (0)),(10,.pv (iV ((0:Nat):Int))),(2,.pv (iV n))]) ((qbI 9 c++[(8,0,qal s),(10,0,.ls 8 s.length),(19,0,.pv (iV ({ o with tn:=c.tn,td:=c.td,s:=s,x:=c.x,l:=c.l }:Ck).tn)),(19,1,.pv (iV ({ o with tn:=c.tn,td:=c.td,s:=s,x:=c.x,l:=c.l }:Ck).td)),(19,2,.ls 11 ({ o with tn:=c.tn,td:=c.td,s:=s,x:=c.x,l:=c.l }:Ck).s.length),(19,3,.pv (iV ({ o with tn:=c.tn,td:=c.td,s:=s,x:=c.x,l:=c.l }:Ck).x)),(19,4,.ls 12 ({ o with tn:=c.tn,td:=c.td,s:=s,x:=c.x,l:=c.l }:Ck).l.length),(19,5,.ls 13 ({ o with tn:=c.tn,td:=c.td,s:=s,x:=c.x,l:=c.l }:Ck).u.length),(19,6,.ls 14 ({ o with tn:=c.tn,td:=c.td,s:=s,x:=c.x,l:=c.l }:Ck).b.length),(19,7,.ls 15 ({ o with tn:=c.tn,td:=c.td,s:=s,x:=c.x,l:=c.l }:Ck).fr.length),(19,8,.ls 16 ({ o with tn:=c.tn,td:=c.td,s:=s,x:=c.x,l:=c.l }:Ck).ev.length),(19,9,.ls 17 ({ o with tn:=c.tn,td:=c.td,s:=s,x:=c.x,l:=c.l }:Ck).wh.length),(19,10,.ls 18 ({ o with tn:=c.tn,td:=c.td,s:=s,x:=c.x,l:=c.l }:Ck).d.length),(11,0,qal ({ o with tn:=c.tn,td:=c.td,s:=s,x:=c.x,l:=c.l }:Ck).s),(12,0,qam ({ o with tn:=c.tn,td:=c.td,s:=s,x:=c.x,l:=c.l }:Ck).l),(13,0,zrI ({ o with tn:=c.tn,td:=c.td,s:=s,x:=c.x,l:=c.l }:Ck).u),(14,0,zrB ({ o with tn:=c.tn,td:=c.td,s:=s,x:=c.x,l:=c.l }:Ck).b),(15,0,zrI ({ o with tn:=c.tn,td:=c.td,s:=s,x:=c.x,l:=c.l }:Ck).fr),(16,0,qas ({ o with tn:=c.tn,td:=c.td,s:=s,x:=c.x,l:=c.l }:Ck).ev),(17,0,zrI ({ o with tn:=c.tn,td:=c.td,s:=s,x:=c.x,l:=c.l }:Ck).wh),(18,0,qaS ({ o with tn:=c.tn,td:=c.td,s:=s,x:=c.x,l:=c.l }:Ck).d),(20,0,.row 48 2 (0) ([]))])) (.exit 0) ([(3,.pp 9 0),(4,.pp 10 0),(7,.pp 19 0),(9,.ls 20 m),(2,.pv (iV n))]) ((qbI 9 c++(qBM c m o s vs)))
abbrev qEg (c:Ck) (o:Ck) (s:List Pt):Prop:=Fn 21 9 [qap c,qaB 8 s] (qiP c s) (.tu [.ag [.pv (iV c.tn),.pv (iV c.td),.ls 9 s.length,.pv (iV c.x),.ls 10 c.l.length,.ls 11 o.u.length,.ls 12 o.b.length,.ls 13 o.fr.length,.ls 14 o.ev.length,.ls 15 o.wh.length,.ls 16 o.d.length],.one (.pv (iV 0))]) 8 [(9,0,qal s),(10,0,qam c.l),(11,0,zrI o.u),(12,0,zrB o.b),(13,0,zrI o.fr),(14,0,qas o.ev),(15,0,zrI o.wh),(16,0,qaS o.d)]
abbrev qCV (c:Ck) (m:Nat) (o2:Ck) (s:List Pt) (vs:List Value):Prop:=Fn 12 2 [qaB 0 s,.pv (qaa c.tn c.td),.ls 1 m] [(0,0,qal s),(1,0,.row 48 2 m vs)] (.tu [qBX o2,.one (.pv (.bool true))]) 8 [(2,0,qal o2.s),(3,0,qam o2.l),(4,0,zrI o2.u),(5,0,zrB o2.b),(6,0,zrI o2.fr),(7,0,qas o2.ev),(8,0,zrI o2.wh),(9,0,qaS o2.d)]
abbrev qvR (c:Ck) (o:Ck) (s:List Pt):Prop:=Fn 31 8 [qap ({ o with tn:=c.tn,td:=c.td,s:=s,x:=c.x,l:=c.l }:Ck)] (qat ({ o with tn:=c.tn,td:=c.td,s:=s,x:=c.x,l:=c.l }:Ck)) (.pv (iV (0))) 0 []
abbrev quA (c:Ck):Prop:=Fn 43 2 [qaL 0 c.x c.l,qaL 1 c.x c.l] [(0,0,qam c.l),(1,0,qam c.l)] (.pv (.bool true)) 0 []
abbrev qs7 (s:List Pt):Prop:=Fn 36 2 [qaB 0 s,qaB 1 s] [(0,0,qal s),(1,0,qal s)] (.pv (.bool true)) 0 []
theorem qiE {c o o2:Ck} {s:List Pt} {vs:List Value} {m:Nat} {n:Int} (hft:qoK c) (hg:qoS s) (hf:qpC s) (ha:qEg c o s) (r0:qEU c m n o s vs) (hce:qCV c m o2 s vs) (hck:qvR c o s) (hs8:quA c) (t5:((o.d.length:Int) !=(o2.d.length:Int))=false) (hsf:qs7 s) (hr:qvP c n) (ha8:quK c n) (hal:Pure Tryz.prog 24 #[] (.bool true)) :
 Fn 9 9 [qap c,qaB 8 s,.pv (iV (n))] (qiP c s) (.pv (.bool true)) 0 []:=
 qbi 700 [] [Cf hft [0,1,2,3,4,5,6,7],.k,Cf hg [8],Cf hf [8],.k,Cf ha [0,1,2,3,4,5,6,7,8],.k,.ln true 9 0 48 2,Lf r0,Cf hce [8,20],.k,Cf hck [11,12,13,14,15,16,17,18],.k,Cf hs8 [12,1],.k,.t false,Cf hsf [11,8],.k,Cf hr [0,1,2,3,4,5,6,7],.k,.k,Cf ha8 [1],.k,Rf hal]
  tI (Co hft [0,1,2,3,4,5,6,7] 11 (Co hg [8] 11 (Co hf [8] 11 (Co ha [0,1,2,3,4,5,6,7,8] 11 (Lo r0 [] (Co hce [8,20] 21 (Co hck [11,12,13,14,15,16,17,18] 30 (Co hs8 [12,1] 30 (Ai t5 (Co hsf [11,8] 30 (Co hr [0,1,2,3,4,5,6,7] 30 (Co ha8 [1] 31 (Ai hal tI))))))))))))) (by kernel_rfl)
abbrev qwW (c:Ck) (n:Int) (o3:Ck):Prop:=Fn 17 8 [qap c,.pv (iV (n))] (qat c) (.tu [qhC o3,.one (.pv (iV 0))]) 8 (qdu o3)
abbrev qkW (c:Ck) (n:Int) (z:Int):Prop:=Fn 46 8 [qap c,.pv (iV (n))] (qat c) (.pv (iV (z))) 0 []
abbrev qkq (o3:Ck):Prop:=Fn 31 8 [qap o3] (qat o3) (.pv (iV (0))) 0 []
theorem qm7 {c o3:Ck} {s:List Pt} {n z v1 v2:Int} (hft:qoK c) (hg:qoS s) (hf:qpC s) (ha:qsZ c s) (hkn:quE c s) (hr:qwW c n o3) (hda:qkW c n z) (hz:decide (z≥0)=true) (hck3:qkq o3) (hv1:iV (IntKind.i64.wrap ((c.d.length:Int)-1))=iV (v1)) (t7:((o3.d.length:Int)==v1)=true) (hv2:iV (IntKind.i64.wrap ((c.l.length:Int)-1))=iV (v2)) (t8:((o3.l.length:Int)==v2)=true) (t9:(o3.tn==c.tn&&(o3.td==c.td&&true))=true) (hal:Pure Tryz.prog 24 #[] (.bool true)) :
 Fn 9 9 [qap c,qaB 8 s,.pv (iV (n))] (qiP c s) (.pv (.bool true)) 0 []:=
 qbi 500 [] [Cf hft [0,1,2,3,4,5,6,7],.k,Cf hg [8],Cf hf [8],.k,Cf ha [0,1,2,3,4,5,6,7,8],.k,.k,.k,Cf hkn [1,8],Cf hr [0,1,2,3,4,5,6,7],.k,Cf hda [0,1,2,3,4,5,6,7],.t true,Cf hck3 [12,13,14,15,16,17,18,19],.k,Re hv1,.t true,Re hv2,.t true,.t true,Rf hal]
  tI (Co hft [0,1,2,3,4,5,6,7] 11 (Co hg [8] 11 (Co hf [8] 11 (Co ha [0,1,2,3,4,5,6,7,8] 11 (Co hkn [1,8] 12 (Co hr [0,1,2,3,4,5,6,7] 12 (Co hda [0,1,2,3,4,5,6,7] 21 (Ai hz (Co hck3 [12,13,14,15,16,17,18,19] 21 (Ai hv1 (Ai t7 (Ai hv2 (Ai t8 (Ai t9 (Ai hal tI))))))))))))))) (by kernel_rfl)
theorem qli {c o3:Ck} {s:List Pt} {n z v1 v2:Int} (hft:qoK c) (hg:qoS s) (hf:qpC s) (ha:qtY c s) (hr:qwW c n o3) (hda:qkW c n z) (hz:decide (z≥0)=true) (hck3:qkq o3) (hv1:iV (IntKind.i64.wrap ((c.d.length:Int)-1))=iV (v1)) (t7:((o3.d.length:Int)==v1)=true) (hv2:iV (IntKind.i64.wrap ((c.l.length:Int)-1))=iV (v2)) (t8:((o3.l.length:Int)==v2)=true) (t9:(o3.tn==c.tn&&(o3.td==c.td&&true))=true) (hal:Pure Tryz.prog 24 #[] (.bool true)) :
 Fn 9 9 [qap c,qaB 8 s,.pv (iV (n))] (qiP c s) (.pv (.bool true)) 0 []:=
 qbi 500 [] [Cf hft [0,1,2,3,4,5,6,7],.k,Cf hg [8],Cf hf [8],.k,Cf ha [0,1,2,3,4,5,6,7,8],.k,.k,.k,.k,Cf hr [0,1,2,3,4,5,6,7],.k,Cf hda [0,1,2,3,4,5,6,7],.t true,Cf hck3 [12,13,14,15,16,17,18,19],.k,Re hv1,.t true,Re hv2,.t true,.t true,Rf hal]
  tI (Co hft [0,1,2,3,4,5,6,7] 11 (Co hg [8] 11 (Co hf [8] 11 (Co ha [0,1,2,3,4,5,6,7,8] 11 (Co hr [0,1,2,3,4,5,6,7] 12 (Co hda [0,1,2,3,4,5,6,7] 21 (Ai hz (Co hck3 [12,13,14,15,16,17,18,19] 21 (Ai hv1 (Ai t7 (Ai hv2 (Ai t8 (Ai t9 (Ai hal tI)))))))))))))) (by kernel_rfl)
theorem qkF {c o o2 o3:Ck} {s:List Pt} {vs:List Value} {m:Nat} {n z v1 v2:Int} (hft:qoK c) (hg:qoS s) (hf:qpC s) (ha:qEg c o s) (r0:qEU c m n o s vs) (hce:qCV c m o2 s vs) (hck:qvR c o s) (hs8:quA c) (t5:((o.d.length:Int) !=(o2.d.length:Int))=false) (hsf:qs7 s) (hr:qwW c n o3) (hda:qkW c n z) (hz:decide (z≥0)=true) (hck3:qkq o3) (hv1:iV (IntKind.i64.wrap ((c.d.length:Int)-1))=iV (v1)) (t7:((o3.d.length:Int)==v1)=true) (hv2:iV (IntKind.i64.wrap ((c.l.length:Int)-1))=iV (v2)) (t8:((o3.l.length:Int)==v2)=true) (t9:(o3.tn==c.tn&&(o3.td==c.td&&true))=true) (hal:Pure Tryz.prog 24 #[] (.bool true)) :
 Fn 9 9 [qap c,qaB 8 s,.pv (iV (n))] (qiP c s) (.pv (.bool true)) 0 []:=
 qbi 700 [] [Cf hft [0,1,2,3,4,5,6,7],.k,Cf hg [8],Cf hf [8],.k,Cf ha [0,1,2,3,4,5,6,7,8],.k,.ln true 9 0 48 2,Lf r0,Cf hce [8,20],.k,Cf hck [11,12,13,14,15,16,17,18],.k,Cf hs8 [12,1],.k,.t false,Cf hsf [11,8],.k,Cf hr [0,1,2,3,4,5,6,7],.k,Cf hda [0,1,2,3,4,5,6,7],.t true,Cf hck3 [30,31,32,33,34,35,36,37],.k,Re hv1,.t true,Re hv2,.t true,.t true,Rf hal]
  tI (Co hft [0,1,2,3,4,5,6,7] 11 (Co hg [8] 11 (Co hf [8] 11 (Co ha [0,1,2,3,4,5,6,7,8] 11 (Lo r0 [] (Co hce [8,20] 21 (Co hck [11,12,13,14,15,16,17,18] 30 (Co hs8 [12,1] 30 (Ai t5 (Co hsf [11,8] 30 (Co hr [0,1,2,3,4,5,6,7] 30 (Co hda [0,1,2,3,4,5,6,7] 39 (Ai hz (Co hck3 [30,31,32,33,34,35,36,37] 39 (Ai hv1 (Ai t7 (Ai hv2 (Ai t8 (Ai t9 (Ai hal tI)))))))))))))))))))) (by kernel_rfl)
theorem qmF {c o3:Ck} {s:List Pt} {n z v1 v2:Int} (hft:qoK c) (hg:qoS s) (hf:qpC s) (ha:qsZ c s) (hkn:quE c s) (hr:qwW c n o3) (hda:qkW c n z) (hz:decide (z≥0)=false) (hck3:qkq o3) (hv1:iV (IntKind.i64.wrap ((c.d.length:Int)-0))=iV (v1)) (t7:((o3.d.length:Int)==v1)=true) (hv2:iV (IntKind.i64.wrap ((c.l.length:Int)-1))=iV (v2)) (t8:((o3.l.length:Int)==v2)=true) (t9:(o3.tn==c.tn&&(o3.td==c.td&&true))=true) (hal:Pure Tryz.prog 24 #[] (.bool true)) :
 Fn 9 9 [qap c,qaB 8 s,.pv (iV (n))] (qiP c s) (.pv (.bool true)) 0 []:=
 qbi 500 [] [Cf hft [0,1,2,3,4,5,6,7],.k,Cf hg [8],Cf hf [8],.k,Cf ha [0,1,2,3,4,5,6,7,8],.k,.k,.k,Cf hkn [1,8],Cf hr [0,1,2,3,4,5,6,7],.k,Cf hda [0,1,2,3,4,5,6,7],.t false,Cf hck3 [12,13,14,15,16,17,18,19],.k,Re hv1,.t true,Re hv2,.t true,.t true,Rf hal]
  tI (Co hft [0,1,2,3,4,5,6,7] 11 (Co hg [8] 11 (Co hf [8] 11 (Co ha [0,1,2,3,4,5,6,7,8] 11 (Co hkn [1,8] 12 (Co hr [0,1,2,3,4,5,6,7] 12 (Co hda [0,1,2,3,4,5,6,7] 21 (Ai hz (Co hck3 [12,13,14,15,16,17,18,19] 21 (Ai hv1 (Ai t7 (Ai hv2 (Ai t8 (Ai t9 (Ai hal tI))))))))))))))) (by kernel_rfl)
theorem qlq {c o3:Ck} {s:List Pt} {n z v1 v2:Int} (hft:qoK c) (hg:qoS s) (hf:qpC s) (ha:qtY c s) (hr:qwW c n o3) (hda:qkW c n z) (hz:decide (z≥0)=false) (hck3:qkq o3) (hv1:iV (IntKind.i64.wrap ((c.d.length:Int)-0))=iV (v1)) (t7:((o3.d.length:Int)==v1)=true) (hv2:iV (IntKind.i64.wrap ((c.l.length:Int)-1))=iV (v2)) (t8:((o3.l.length:Int)==v2)=true) (t9:(o3.tn==c.tn&&(o3.td==c.td&&true))=true) (hal:Pure Tryz.prog 24 #[] (.bool true)) :
 Fn 9 9 [qap c,qaB 8 s,.pv (iV (n))] (qiP c s) (.pv (.bool true)) 0 []:=
 qbi 500 [] [Cf hft [0,1,2,3,4,5,6,7],.k,Cf hg [8],Cf hf [8],.k,Cf ha [0,1,2,3,4,5,6,7,8],.k,.k,.k,.k,Cf hr [0,1,2,3,4,5,6,7],.k,Cf hda [0,1,2,3,4,5,6,7],.t false,Cf hck3 [12,13,14,15,16,17,18,19],.k,Re hv1,.t true,Re hv2,.t true,.t true,Rf hal]
  tI (Co hft [0,1,2,3,4,5,6,7] 11 (Co hg [8] 11 (Co hf [8] 11 (Co ha [0,1,2,3,4,5,6,7,8] 11 (Co hr [0,1,2,3,4,5,6,7] 12 (Co hda [0,1,2,3,4,5,6,7] 21 (Ai hz (Co hck3 [12,13,14,15,16,17,18,19] 21 (Ai hv1 (Ai t7 (Ai hv2 (Ai t8 (Ai t9 (Ai hal tI)))))))))))))) (by kernel_rfl)
theorem qlj {c o o2 o3:Ck} {s:List Pt} {vs:List Value} {m:Nat} {n z v1 v2:Int} (hft:qoK c) (hg:qoS s) (hf:qpC s) (ha:qEg c o s) (r0:qEU c m n o s vs) (hce:qCV c m o2 s vs) (hck:qvR c o s) (hs8:quA c) (t5:((o.d.length:Int) !=(o2.d.length:Int))=false) (hsf:qs7 s) (hr:qwW c n o3) (hda:qkW c n z) (hz:decide (z≥0)=false) (hck3:qkq o3) (hv1:iV (IntKind.i64.wrap ((c.d.length:Int)-0))=iV (v1)) (t7:((o3.d.length:Int)==v1)=true) (hv2:iV (IntKind.i64.wrap ((c.l.length:Int)-1))=iV (v2)) (t8:((o3.l.length:Int)==v2)=true) (t9:(o3.tn==c.tn&&(o3.td==c.td&&true))=true) (hal:Pure Tryz.prog 24 #[] (.bool true)) :
 Fn 9 9 [qap c,qaB 8 s,.pv (iV (n))] (qiP c s) (.pv (.bool true)) 0 []:=
 qbi 700 [] [Cf hft [0,1,2,3,4,5,6,7],.k,Cf hg [8],Cf hf [8],.k,Cf ha [0,1,2,3,4,5,6,7,8],.k,.ln true 9 0 48 2,Lf r0,Cf hce [8,20],.k,Cf hck [11,12,13,14,15,16,17,18],.k,Cf hs8 [12,1],.k,.t false,Cf hsf [11,8],.k,Cf hr [0,1,2,3,4,5,6,7],.k,Cf hda [0,1,2,3,4,5,6,7],.t false,Cf hck3 [30,31,32,33,34,35,36,37],.k,Re hv1,.t true,Re hv2,.t true,.t true,Rf hal]
  tI (Co hft [0,1,2,3,4,5,6,7] 11 (Co hg [8] 11 (Co hf [8] 11 (Co ha [0,1,2,3,4,5,6,7,8] 11 (Lo r0 [] (Co hce [8,20] 21 (Co hck [11,12,13,14,15,16,17,18] 30 (Co hs8 [12,1] 30 (Ai t5 (Co hsf [11,8] 30 (Co hr [0,1,2,3,4,5,6,7] 30 (Co hda [0,1,2,3,4,5,6,7] 39 (Ai hz (Co hck3 [30,31,32,33,34,35,36,37] 39 (Ai hv1 (Ai t7 (Ai hv2 (Ai t8 (Ai t9 (Ai hal tI)))))))))))))))))))) (by kernel_rfl)
end Go.Proofs.YtkjaanhddkkodaaGreat
