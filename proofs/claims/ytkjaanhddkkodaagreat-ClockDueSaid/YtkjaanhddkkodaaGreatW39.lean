/-
  Joined: Yp, Yv, Vf, Vl, Ys, Yz, Lb, Bj, Lc, Ld, Lf. Conditions: none.
-/
import Derived.Test.YtkjaanhddkkodaaGreatYo
import Derived.Test.YtkjaanhddkkodaaGreatW18
import Derived.Test.YtkjaanhddkkodaaGreatZj
import Derived.Test.YtkjaanhddkkodaaGreatW27
import Derived.Test.YtkjaanhddkkodaaGreatW26
import Derived.Test.YtkjaanhddkkodaaGreatSxP
namespace Go.Proofs.YtkjaanhddkkodaaGreat
set_option maxRecDepth 100000
open Go.RowKit
structure P2 where
 a:Int
 b:Int
deriving DecidableEq
def p2V:List P2→List Value
 | []=>[]
 | m::r=>iV m.a::iV m.b::p2V r
abbrev qFD (l:List P2):SV:=.row 23 2 l.length (p2V l)
abbrev qFE (l:List P2):SV:=.row 52 2 l.length (p2V l)
theorem qnF:∀ {l:List P2} {k:Nat} {m:P2},l[k]?=some m→(p2V l)[k*2]?=some (iV m.a)∧(p2V l)[k*2+1]?=some (iV m.b)
 | [],k,p,h=>by simp at h
 | q::r,0,p,h=>by simp at h;subst h;exact⟨rfl,rfl⟩
 | q::r,k+1,p,h=>by
  have:=qnF (l:=r) (k:=k) (m:=p) (by simpa using h)
  rw[show (k+1)*2=k*2+1+1 by omega]
  exact this
theorem qEr {l:List P2} {k:Nat} {m:P2} (h:l[k]?=some m):qcS (p2V l) (0*2+k*2) [iV m.a,iV m.b]:=by
 obtain⟨h1,h2⟩:=qnF h
 intro j v hj
 rw[show 0*2+k*2+j=k*2+j by omega]
 match j,hj with
 | 0,hj=>cases hj;exact h1
 | 1,hj=>cases hj;exact h2
 | j+2,hj=>simp at hj
end Go.Proofs.YtkjaanhddkkodaaGreat

namespace Go.Proofs.YtkjaanhddkkodaaGreat
set_option maxRecDepth 100000
open Go.ChangeShapes Go.WideShapes Go.ChangeAt Go.RowKit Go.Joins Go.Deep
theorem qDy:Tryz.prog.cellsOf 62=5:=by kernel_rfl
theorem qwJ:Tryz.prog.cellsOf 23=2:=by kernel_rfl
theorem qzx:Tryz.prog.cellsOf 52=2:=by kernel_rfl
theorem qr4:Tryz.prog.cellsOf 2=1:=by kernel_rfl
theorem qDB:Tryz.prog.cellsOf 34=1:=by kernel_rfl
theorem qCs:Tryz.prog.cellsOf 36=5:=by kernel_rfl
theorem qBs {n:Int} (h:(Lit.int .i64 n).wf=true):I64 n:=by
 simp only[Lit.wf,Bool.and_eq_true,decide_eq_true_eq] at h
 have h1:IntKind.i64.min = -9223372036854775808:=by decide
 have h2:IntKind.i64.max=9223372036854775807:=by decide
 rw[h1,h2] at h
 exact h
section
variable {H:Type} {enc:TypeId×Value→H} {W:World} {base:Nat} {spare:Nat→Bool} {held:Bool}
theorem qyU (f:Nat→Ev):∀ (n j:Nat) (v:Value),(qaK ((List.range n).map f))[j]?=some v→j/5<n∧(ecV (f (j/5)))[j%5]?=some v:=by
 intro n j v h
 have hj:j<n*5:=by
  have:=(List.getElem?_eq_some_iff.1 h).1
  rw[qa8] at this
  simpa using this
 have hk:j/5<n:=by omega
 obtain⟨g0,g1,g2,g3,g4⟩:=qc5 (l:=(List.range n).map f) (k:=j/5) (m:=f (j/5)) (by simp[hk])
 refine⟨hk,?_⟩
 have h5:j%5=0∨j%5=1∨j%5=2∨j%5=3∨j%5=4:=by omega
 have e:j=j/5*5+j%5:=by omega
 rw[e] at h
 rcases h5 with e3 | e3 | e3 | e3 | e3<;>rw[e3] at h ⊢
 ·rw[Nat.add_zero,g0] at h;exact h
 ·rw[g1] at h;exact h
 ·rw[g2] at h;exact h
 ·rw[g3] at h;exact h
 ·rw[g4] at h;exact h
theorem qpX {fuel:Nat} {cs:List Value} {x:DataW H×List MemPlace} (h:DataW.trod enc Tryz.prog W base spare held fuel 34 cs=some x) :
 ∃ (u:Value) (l:List Ev),cs=[u]∧Rd W 5 u l.length (qaK l)∧∀ p∈l,EvI p:=by
 rcases open_slice Tryz.underlying34 h with ⟨rfl,_⟩ | ⟨a,len,cap,m,n,D,Pl,rfl,_,hlc,_,hm,_,hi⟩
 ·exact⟨_,[],rfl,⟨rfl,none,0,rfl,Nat.le_refl _,fun j v hv=>by simp[qaK] at hv⟩,fun p hp=>by simp at hp⟩
 have hlm:len≤m:=by rw[hm];split<;>omega
 have each:∀ i,i<len→∃ p:Ev,(W.cell? (a.add (i*5))=some (iV p.n)∧W.cell? (a.add (i*5+1))=some (iV p.d)∧W.cell? (a.add (i*5+2))=some (iV p.k)∧W.cell? (a.add (i*5+3))=some (iV p.i)∧W.cell? (a.add (i*5+4))=some (iV p.w))∧EvI p:=by
  intro i hil
  obtain⟨cs',hc,ht⟩:=hi i (by omega)
  rw[qDy] at hc
  obtain⟨y0,y1,y2,n',_,hlen,t0,t1,t2⟩:=trod_struct3 Tryz.underlying62 ht
  obtain⟨z0,z1,n2,_,hlen2,s0,s1⟩:=trod_struct2 Tryz.underlying23 t0
  obtain⟨z2,z3,n3,_,hlen3,s2,s3⟩:=trod_struct2 Tryz.underlying52 t2
  obtain⟨_,hcl,hat⟩:=World.cells?_some hc
  match cs',hcl with
  | [c0,c1,c2,c3,c4],_=>
   obtain⟨pn,e0,_,w0⟩:=DataW.trod_int Tryz.underlying2 s0
   obtain⟨pd,e1,_,w1⟩:=DataW.trod_int Tryz.underlying2 s1
   obtain⟨pk,e2,_,w2⟩:=DataW.trod_int Tryz.underlying3 t1
   obtain⟨pi,e3,_,w3⟩:=DataW.trod_int Tryz.underlying3 s2
   obtain⟨pw,e4,_,w4⟩:=DataW.trod_int Tryz.underlying3 s3
   simp[qwK,qr4,qwJ,qzx] at e0 e1 e2 e3 e4
   refine⟨⟨pn,pd,pk,pi,pw⟩,⟨?_,?_,?_,?_,?_⟩,qBs w0,qBs w1⟩
   ·have:=hat 0 (by omega);rw[add_add] at this;simpa [e0] using this
   ·have:=hat 1 (by omega);rw[add_add] at this;simpa [e1] using this
   ·have:=hat 2 (by omega);rw[add_add] at this;simpa [e2] using this
   ·have:=hat 3 (by omega);rw[add_add] at this;simpa [e3] using this
   ·have:=hat 4 (by omega);rw[add_add] at this;simpa [e4] using this
 haveI:Inhabited Ev:=⟨⟨0,0,0,0,0⟩⟩
 obtain⟨f,hf⟩:=choose_lt (α:=Ev) each
 refine⟨_,(List.range len).map f,rfl,⟨qa8 _,some a,cap,by simp,by simpa using hlc,fun j v hv=>?_⟩,fun p hp=>?_⟩
 ·obtain⟨hk,he⟩:=qyU f len j v hv
  obtain⟨c0,c1,c2,c3,c4⟩:=(hf _ hk).1
  have hcell:W.cell? (a.add j)=some v:=by
   have h5:j%5=0∨j%5=1∨j%5=2∨j%5=3∨j%5=4:=by omega
   have e:j=j/5*5+j%5:=by omega
   rcases h5 with e3 | e3 | e3 | e3 | e3<;>rw[e3] at he e<;>rw[e]<;>simp at he<;>subst he
   ·exact c0
   ·exact c1
   ·exact c2
   ·exact c3
   ·exact c4
  obtain⟨b,off,spot⟩:=a
  have hs:spot=none:=by simpa [Addr.add] using World.cell?_spot (hf 0 (by omega)).1.1
  subst hs
  exact⟨b,off,rfl,by rw[← Go.WideShapes.add_plain];exact hcell⟩
 ·obtain⟨i,hi',rfl⟩:=List.mem_map.1 hp
  exact (hf i (List.mem_range.1 hi')).2
end
end Go.Proofs.YtkjaanhddkkodaaGreat

namespace Go.Proofs.YtkjaanhddkkodaaGreat
set_option maxRecDepth 100000
open Go.RowKit
theorem qoQ {u fr wh:List Int} {b:List Bool} {ev:List Ev} {hi hw:Int} (hc:Fn 77 5 [agA u b fr ev wh] [(0,0,zrI u),(1,0,zrB b),(2,0,zrI fr),(3,0,qau ev),(4,0,zrI wh)] (.pv (iV (0))) 0 []) (hl:Fn 132 3 [.ag [.ls 0 u.length,.ls 1 b.length,.ls 2 fr.length],.pv (qaJ hi hw)] [(0,0,zrI u),(1,0,zrB b),(2,0,zrI fr)] (.pv (.bool false)) 0 []) :
 Fn 78 5 [agA u b fr ev wh,.pv (qaJ hi hw)] [(0,0,zrI u),(1,0,zrB b),(2,0,zrI fr),(3,0,qau ev),(4,0,zrI wh)] (.pv (.tuple #[.agg #[iV 0,iV 0,iV 0,iV 0,iV 0],iV 6])) 0 []:=
 Fz [] [Cf hc [0,1,2,3,4],.k,Cf hl [0,1,2],.k]
  tI (Co hc [0,1,2,3,4] 8 (Co hl [0,1,2] 8 tI))
theorem qzO {u fr wh:List Int} {b:List Bool} {ev:List Ev} {x:Ev} {hi hw:Int} {j:Nat} (hc:Fn 77 5 [agA u b fr ev wh] [(0,0,zrI u),(1,0,zrB b),(2,0,zrI fr),(3,0,qau ev),(4,0,zrI wh)] (.pv (iV (0))) 0 []) (hl:Fn 132 3 [.ag [.ls 0 u.length,.ls 1 b.length,.ls 2 fr.length],.pv (qaJ hi hw)] [(0,0,zrI u),(1,0,zrB b),(2,0,zrI fr)] (.pv (.bool true)) 0 []) (hiw:0≤hi∧hi<(wh.length:Int)) (hw_:wh[hi.toNat]?=some (j:Int)) (hij:0≤(j:Int)∧(j:Int)<(ev.length:Int)) (hx:ev[j]?=some x) :
 Fn 78 5 [agA u b fr ev wh,.pv (qaJ hi hw)] [(0,0,zrI u),(1,0,zrB b),(2,0,zrI fr),(3,0,qau ev),(4,0,zrI wh)] (.pv (.tuple #[qab x,iV 0])) 0 []:=
 Fz [] [Cf hc [0,1,2,3,4],.k,Cf hl [0,1,2],.k,.md,.r (iV (j:Int)),.r (qab x)]
  tI (Co hc [0,1,2,3,4] 8 (Co hl [0,1,2] 8 (Ai hiw (Ai (qe5 hw_) (Ai hij (Ai (qbf hx) tI))))))
end Go.Proofs.YtkjaanhddkkodaaGreat

namespace Go.Proofs.YtkjaanhddkkodaaGreat
set_option maxRecDepth 100000
open Go.RowKit
section
variable {u fr wh:List Int} {b:List Bool} {ev:List Ev}
theorem qkq {hi hw:Int} (h:VA u b fr ev wh) (hl:¬ Live u b hi hw):Fn 78 5 [agA u b fr ev wh,.pv (qaJ hi hw)] (agP u b fr ev wh) (.pv (.tuple #[evZ,iV 6])) 0 []:=qoQ (hc:=qd0 h) (hl:=qjf h.vd hl)
theorem qly {hi hw:Int} {j:Nat} {x:Ev} (h:VA u b fr ev wh) (hl:Live u b hi hw) (hj:wh[hi.toNat]?=some (j:Int)) (hx:ev[j]?=some x):Fn 78 5 [agA u b fr ev wh,.pv (qaJ hi hw)] (agP u b fr ev wh) (.pv (.tuple #[qab x,iV 0])) 0 []:=by
 have:=(List.getElem?_eq_some_iff.1 hj).1
 have:=(List.getElem?_eq_some_iff.1 hx).1
 have:=hl.lo
 exact qzO (hc:=qd0 h) (hl:=qhR h.vd hl) (hiw:=by omega) (hw_:=hj) (hij:=by omega) (hx:=hx)
end
end Go.Proofs.YtkjaanhddkkodaaGreat

namespace Go.Proofs.YtkjaanhddkkodaaGreat
set_option maxRecDepth 100000
open Go.RowKit
def qlH:Int→List P2→List P2→List Ev
 | i,r::rs,h::hs=>⟨r.a,r.b,i,h.a,h.b⟩::qlH (i+1) rs hs
 | _,_,_=>[]
theorem qhg:∀ (i:Int) (rs hs:List P2) (r h:P2),rs.length=hs.length→qlH i (rs++[r]) (hs++[h])=qlH i rs hs++[⟨r.a,r.b,i+(rs.length:Int),h.a,h.b⟩]
 | i,[],[],r,h,_=>by simp[qlH]
 | i,[],_::_,r,h,e=>by simp at e
 | i,_::_,[],r,h,e=>by simp at e
 | i,a::rs,c::hs,r,h,e=>by
  have:=qhg (i+1) rs hs r h (by simpa using e)
  simp only[List.cons_append,qlH,this,List.length_cons]
  congr 3
  congr 1
  omega
theorem qrI:∀ {i:Int} {rs hs:List P2} {x:Ev},x∈qlH i rs hs→i≤x.k∧x.k<i+(rs.length:Int)
 | i,[],_,x,h=>by simp[qlH] at h
 | i,_::_,[],x,h=>by simp[qlH] at h
 | i,r::rs,c::hs,x,h=>by
  simp only[qlH,List.mem_cons] at h
  rcases h with rfl | h
  ·simp only[List.length_cons];omega
  ·have:=qrI h
   simp only[List.length_cons];omega
structure FS (rs:List P2) (k:Nat) (u:List Int) (b:List Bool) (fr:List Int) (ev:List Ev) (wh:List Int) (hv:List P2):Prop where
 va:VA u b fr ev wh
 len:hv.length=k
 ul:u.length=50
 ub:∀ y∈u,y≤(k:Int)
 perm:ev.Perm (qlH 0 (rs.take k) hv)
 live:∀ h∈hv,Live u b h.a h.b
def qFt (rs:List P2):Prop:=∀ r∈rs,(I64 r.a∧I64 r.b)∧okB r.a r.b=true
theorem FS.step {rs:List P2} {k:Nat} {u:List Int} {b:List Bool} {fr:List Int} {ev:List Ev} {wh:List Int} {hv:List P2} (h:FS rs k u b fr ev wh hv) (ho:qFt rs) (hk:k<rs.length) (hl:rs.length≤30) {ra:P2} (hr:rs[k]?=some ra) :
 ∃ u2 b2 f2 hi hw,qbE u b fr=some (u2,b2,f2,hi,hw)∧cnE ev (k:Int)=0∧FS rs (k+1) u2 b2 f2 (qa6 ev wh ⟨ra.a,ra.b,(k:Int),hi,hw⟩).1 (qa6 ev wh ⟨ra.a,ra.b,(k:Int),hi,hw⟩).2 (hv++[⟨hi,hw⟩]):=by
 obtain⟨ht,h0⟩:=ho ra (List.mem_of_getElem? hr)
 have hcnt:=h.va.vd.count
 have hel:ev.length=k:=by
  have h1:=h.perm.length_eq
  have:∀ (i:Int) (rs hs:List P2),rs.length=hs.length→(qlH i rs hs).length=hs.length:=by
   intro i rs hs
   induction rs generalizing i hs with
   | nil=>intro e;cases hs with
    | nil=>rfl
    | cons a r=>simp at e
   | cons a r ih=>intro e;cases hs with
    | nil=>simp at e
    | cons c q=>simp only[qlH,List.length_cons];rw[ih (i+1) q (by simpa using e)]
  rw[this 0 (rs.take k) hv (by rw[List.length_take,h.len];omega),h.len] at h1
  exact h1
 have hc2:=h.va.wf.cnt
 have hul:=h.ul
 have hne:fr≠[]:=fun e=>by rw[e] at hcnt;simp at hcnt;omega
 have hlast:=List.getLast?_eq_some_getLast hne
 generalize fr.getLast hne=hi at hlast
 have hin:=h.va.vd.rng hi (by obtain⟨e,_,_⟩:=qbR hlast;rw[e];simp)
 have hy:u[hi.toNat]?=some (u[hi.toNat]'(by omega)):=List.getElem?_eq_getElem (by omega)
 generalize u[hi.toNat]'(by omega)=y at hy
 have hyb:=h.ub y (List.mem_of_getElem? hy)
 have htk:qbE u b fr=some (u.set hi.toNat (y+1),b.set hi.toNat true,fr.dropLast,hi,y+1):=by
  unfold qbE
  simp only[hlast,hy]
  rw[if_neg (by omega)]
 have hcn:cnE ev (k:Int)=0:=by
  unfold cnE
  rw[if_pos (by omega),if_neg]
  rintro⟨m,hm,e⟩
  have:=qrI (h.perm.mem_iff.1 hm)
  rw[List.length_take] at this
  omega
 obtain⟨v1,v2,v3,v4⟩:=h.va.push (z:=(k:Int)) ht h0 hcn htk
 refine⟨_,_,_,_,_,htk,hcn,v1,by simp[h.len],by rw[List.length_set];exact hul,fun q hq=>?_,?_,fun q hq=>?_⟩
 ·rcases List.mem_or_eq_of_mem_set hq with hq | hq
  ·have:=h.ub q hq;omega
  ·omega
 ·rw[List.take_add_one,hr]
  have e:=qhg 0 (rs.take k) hv ra ⟨hi,y+1⟩ (by rw[List.length_take,h.len];omega)
  rw[show (some ra).toList=[ra] from rfl,e,List.length_take,show (0:Int)+((min k rs.length:Nat):Int)=(k:Int) by omega]
  exact v2.trans (h.perm.append_right _)
 ·rcases List.mem_append.1 hq with hq | hq
  ·exact v4 _ _ (h.live q hq)
  ·rw[List.mem_singleton] at hq
   subst hq
   exact v3
theorem VA.new {n:Nat} (h1:1≤n) (h2:n≤200):VA (List.replicate n 0) (List.replicate n false) (qee n) [] (List.replicate n (-1)):=by
 refine VA.of (Vd.new h1 h2) (by simp) (fun j x hx=>by simp at hx) (fun x hx=>by simp at hx) (fun k hk=>?_) (fun k hk=>?_) (by simp[List.count_replicate]) (fun x hx=>by simp at hx) (by simp) (fun k _ x y hx=>by simp at hx)
 ·have:=List.eq_of_mem_replicate (List.mem_of_getElem? hk)
  cases this
 ·have:=(List.getElem?_eq_some_iff.1 hk).1
  simp at this
  simp[this]
end Go.Proofs.YtkjaanhddkkodaaGreat

namespace Go.Proofs.YtkjaanhddkkodaaGreat
set_option maxRecDepth 100000
open Go.RowKit
section
variable {u fr wh:List Int} {b:List Bool} {ev:List Ev}
theorem VA.one {x y:Ev} (h:VA u b fr ev wh) (hx:x∈ev) (hy:y∈ev) (e:x.i=y.i):x=y:=by
 obtain⟨j,hj⟩:=List.mem_iff_getElem?.1 hx
 obtain⟨k,hk⟩:=List.mem_iff_getElem?.1 hy
 have:=h.con.inj hj hk e
 subst this
 rw[hj] at hk
 exact Option.some.inj hk
theorem VA.place {x:Ev} (h:VA u b fr ev wh) (hm:x∈ev):∃ j:Nat,ev[j]?=some x∧wh[x.i.toNat]?=some (j:Int)∧Live u b x.i x.w:=by
 obtain⟨j,hj⟩:=List.mem_iff_getElem?.1 hm
 exact⟨j,hj,(h.own hj).2,(h.own hj).1⟩
section
variable {u2 f2 wh3:List Int} {b2:List Bool} {ev3:List Ev} {gi gw:Int}
end
end
end Go.Proofs.YtkjaanhddkkodaaGreat

namespace Go.Proofs.YtkjaanhddkkodaaGreat
set_option maxRecDepth 100000
open Go.RowKit
structure Ck where
 tn:Int
 td:Int
 s:List Pt
 x:Int
 l:List Pt
 u:List Int
 b:List Bool
 fr:List Int
 ev:List Ev
 wh:List Int
 d:List Pt
abbrev qaU (l:List Pt):SV:=.row 54 3 l.length (qbt l)
abbrev qap (c:Ck):SV:=.ag [.pv (iV c.tn),.pv (iV c.td),.ls 0 c.s.length,.pv (iV c.x),.ls 1 c.l.length,.ls 2 c.u.length,.ls 3 c.b.length,.ls 4 c.fr.length,.ls 5 c.ev.length,.ls 6 c.wh.length,.ls 7 c.d.length]
abbrev qaq (c:Ck):List (Nat×Nat×SV):=[(0,0,qak c.s),(1,0,qal c.l),(2,0,zrI c.u),(3,0,zrB c.b),(4,0,zrI c.fr),(5,0,qau c.ev),(6,0,zrI c.wh),(7,0,qaU c.d)]
abbrev qbr (k:Nat) (c:Ck):List (Nat×Nat×SV):=[(k,0,.pv (iV c.tn)),(k,1,.pv (iV c.td)),(k,2,.ls 0 c.s.length),(k,3,.pv (iV c.x)),(k,4,.ls 1 c.l.length),(k,5,.ls 2 c.u.length),(k,6,.ls 3 c.b.length),(k,7,.ls 4 c.fr.length),(k,8,.ls 5 c.ev.length),(k,9,.ls 6 c.wh.length),(k,10,.ls 7 c.d.length),(0,0,qak c.s),(1,0,qal c.l),(2,0,zrI c.u),(3,0,zrB c.b),(4,0,zrI c.fr),(5,0,qau c.ev),(6,0,zrI c.wh),(7,0,qaU c.d)]
abbrev qgY (c:Ck):S1:=.ag [.pv (iV c.tn),.pv (iV c.td),.ls 8 c.s.length,.pv (iV c.x),.ls 9 c.l.length,.ls 10 c.u.length,.ls 11 c.b.length,.ls 12 c.fr.length,.ls 13 c.ev.length,.ls 14 c.wh.length,.ls 15 c.d.length]
abbrev qwT (c:Ck):SV:=.ag [.pv (iV c.tn),.pv (iV c.td),.ls 8 c.s.length,.pv (iV c.x),.ls 9 c.l.length,.ls 10 c.u.length,.ls 11 c.b.length,.ls 12 c.fr.length,.ls 13 c.ev.length,.ls 14 c.wh.length,.ls 15 c.d.length]
abbrev qdu (c:Ck):List (Nat×Nat×SV):=[(8,0,qak c.s),(9,0,qal c.l),(10,0,zrI c.u),(11,0,zrB c.b),(12,0,zrI c.fr),(13,0,qau c.ev),(14,0,zrI c.wh),(15,0,qaU c.d)]
abbrev qcC:Value:=.agg #[iV 0,iV 0,.slice none 0 0,iV 0,.slice none 0 0,.slice none 0 0,.slice none 0 0,.slice none 0 0,.slice none 0 0,.slice none 0 0,.slice none 0 0]
end Go.Proofs.YtkjaanhddkkodaaGreat

namespace Go.Proofs.YtkjaanhddkkodaaGreat
set_option maxRecDepth 100000
open Go.RowKit
abbrev quL (l:List P2):SV:=.row 48 2 l.length (p2V l)
abbrev qCv (o:Ck):S1:=.ag [.pv (iV o.tn),.pv (iV o.td),.ls 2 o.s.length,.pv (iV o.x),.ls 3 o.l.length,.ls 4 o.u.length,.ls 5 o.b.length,.ls 6 o.fr.length,.ls 7 o.ev.length,.ls 8 o.wh.length,.ls 9 o.d.length]
abbrev qFx (o:Ck):List (Nat×Nat×SV):=[(2,0,qak o.s),(3,0,qal o.l),(4,0,zrI o.u),(5,0,zrB o.b),(6,0,zrI o.fr),(7,0,qau o.ev),(8,0,zrI o.wh),(9,0,qaU o.d)]
abbrev qcs (n:Int):List Pt:=[Pt.mk 1 0 2,Pt.mk 2 6 (-1),Pt.mk 5 0 n]
theorem qAA {n:Int} :
 Pure Tryz.prog 13 #[iV n] (qaa n 1):=
 qad (args:=[iV n]) 300 []
  (Ai rfl tI) (by kernel_rfl)
theorem qEC {n:Int} :
 Fn 11 0 [.pv (iV (n))] [] (.ag [.ls 0 3]) 1 [(0,0,qak (qcs n))]:=
 Fz [(0,1)] [.lw]
  (qaH (qaL [(0,1)]) [(0,0,qak (qcs n))]) tI
abbrev qBd (l:List P2) (o:Ck):HpL:=[(1,0,quL l),(4,0,.pv (iV 0)),(4,1,.pv (iV 0)),(4,2,.pv (.slice none 0 0)),(4,3,.pv (iV 0)),(4,4,.pv (.slice none 0 0)),(4,5,.pv (.slice none 0 0)),(4,6,.pv (.slice none 0 0)),(4,7,.pv (.slice none 0 0)),(4,8,.pv (.slice none 0 0)),(4,9,.pv (.slice none 0 0)),(4,10,.pv (.slice none 0 0)),(13,0,.pv (iV o.tn)),(13,1,.pv (iV o.td)),(13,2,.ls 5 o.s.length),(13,3,.pv (iV o.x)),(13,4,.ls 11 o.l.length),(13,5,.ls 6 o.u.length),(13,6,.ls 7 o.b.length),(13,7,.ls 8 o.fr.length),(13,8,.ls 10 o.ev.length),(13,9,.ls 9 o.wh.length),(13,10,.ls 12 o.d.length),(5,0,qak o.s),(11,0,qal o.l),(6,0,zrI o.u),(7,0,zrB o.b),(8,0,zrI o.fr),(10,0,qau o.ev),(9,0,zrI o.wh),(12,0,qaU o.d)]
abbrev qB3 (k:Nat) (l:List P2):TmL:=[(2,.ls 1 l.length),(6,.pp 4 0),(8,.pp 13 0),(10,.pv (iV (k:Int)))]
theorem qxD {o o1:Ck} {l:List P2} {k:Nat} {n:Int} {g:P2} (hk:l[k]?=some g) (hin:0≤(k:Int)∧(k:Int)<(l.length:Int)) (hlt:decide ((k:Int)<(l.length:Int))=true) (hc:Fn 16 8 [qap o,.pv (qag g.a g.b)] (qaq o) (.tu [qgY o1,.one (.pv (iV n)),.one (.pv (iV 0))]) 8 (qdu o1)) (hs:iV (IntKind.i64.wrap ((k:Int)+1))=iV (((k+1:Nat):Int))) {e:Exit} {tm2:TmL} {hp2:HpL}
 (r:Rl 2 2 12 0 46 14 ([(2,.ls 1 l.length),(6,.pp 4 0),(8,.pp 13 0),(10,.pv (iV ((k+1:Nat):Int)))]) ([(1,0,quL l),(4,0,.pv (iV 0)),(4,1,.pv (iV 0)),(4,2,.pv (.slice none 0 0)),(4,3,.pv (iV 0)),(4,4,.pv (.slice none 0 0)),(4,5,.pv (.slice none 0 0)),(4,6,.pv (.slice none 0 0)),(4,7,.pv (.slice none 0 0)),(4,8,.pv (.slice none 0 0)),(4,9,.pv (.slice none 0 0)),(4,10,.pv (.slice none 0 0)),(13,0,.pv (iV o1.tn)),(13,1,.pv (iV o1.td)),(13,2,.ls 5 o1.s.length),(13,3,.pv (iV o1.x)),(13,4,.ls 11 o1.l.length),(13,5,.ls 6 o1.u.length),(13,6,.ls 7 o1.b.length),(13,7,.ls 8 o1.fr.length),(13,8,.ls 10 o1.ev.length),(13,9,.ls 9 o1.wh.length),(13,10,.ls 12 o1.d.length),(5,0,qak o1.s),(11,0,qal o1.l),(6,0,zrI o1.u),(7,0,zrB o1.b),(8,0,zrI o1.fr),(10,0,qau o1.ev),(9,0,zrI o1.wh),(12,0,qaU o1.d)]) e tm2 hp2):Rl 2 2 12 0 46 14 (qB3 k l) (qBd l o) e tm2 hp2:=
 RunsL.next [(5,14),(11,15),(6,16),(7,17),(8,18),(10,19),(9,20),(12,21)] 300 [.t true,.md,.r (qag g.a g.b),Cf hc [5,11,6,7,8,10,9,12],.k,Re hs]
  (Ro (Ai hlt (Ai hin (Ai (qEr hk) (Co hc [5,11,6,7,8,10,9,12] 14 (Ai hs tI)))))) r
theorem qtl {o:Ck} {l:List P2} {k:Nat} {z:Int} {g:P2} (hk:l[k]?=some g) (hin:0≤(k:Int)∧(k:Int)<(l.length:Int)) (hlt:decide ((k:Int)<(l.length:Int))=true) (hc:Fn 16 8 [qap o,.pv (qag g.a g.b)] (qaq o) (.pv (.tuple #[qcC,iV 0,iV z])) 0 []) (he:(z==0)=false) (hs:iV (IntKind.i64.wrap ((k:Int)+1))=iV (((k+1:Nat):Int))) {e:Exit} {tm2:TmL} {hp2:HpL}
 (r:Rl 2 2 12 0 46 14 ([(2,.ls 1 l.length),(6,.pp 4 0),(8,.pp 13 0),(10,.pv (iV ((k+1:Nat):Int)))]) (qBd l o) e tm2 hp2):Rl 2 2 12 0 46 14 (qB3 k l) (qBd l o) e tm2 hp2:=
 RunsL.next [] 300 [.t true,.md,.r (qag g.a g.b),Cf hc [5,11,6,7,8,10,9,12],.t false,Re hs]
  (Ro (Ai hlt (Ai hin (Ai (qEr hk) (Co hc [5,11,6,7,8,10,9,12] 14 (Ai he (Ai hs tI))))))) r
abbrev qER (o:Ck):HpL:=[(4,0,.pv (iV 0)),(4,1,.pv (iV 0)),(4,2,.pv (.slice none 0 0)),(4,3,.pv (iV 0)),(4,4,.pv (.slice none 0 0)),(4,5,.pv (.slice none 0 0)),(4,6,.pv (.slice none 0 0)),(4,7,.pv (.slice none 0 0)),(4,8,.pv (.slice none 0 0)),(4,9,.pv (.slice none 0 0)),(4,10,.pv (.slice none 0 0)),(13,0,.pv (iV o.tn)),(13,1,.pv (iV o.td)),(13,2,.ls 5 o.s.length),(13,3,.pv (iV o.x)),(13,4,.ls 11 o.l.length),(13,5,.ls 6 o.u.length),(13,6,.ls 7 o.b.length),(13,7,.ls 8 o.fr.length),(13,8,.ls 10 o.ev.length),(13,9,.ls 9 o.wh.length),(13,10,.ls 12 o.d.length),(5,0,qak o.s),(11,0,qal o.l),(6,0,zrI o.u),(7,0,zrB o.b),(8,0,zrI o.fr),(10,0,qau o.ev),(9,0,zrI o.wh),(12,0,qaU o.d)]
theorem qtN {o:Ck} {l:List P2} {k:Nat} (hge:decide ((k:Int)<(l.length:Int))=false):Rl 2 2 12 0 46 14 (qB3 k l) (qBd l o) (.exit 0) ([(6,.pp 4 0),(8,.pp 13 0)]) (qER o):=
 RunsL.stop [] 300 [.t false] (fun h=>by cases h)
  (Ro (Ai hge tI))
theorem qqr {c o:Ck} {s:List Pt} {l:List P2} {tn td:Int} (hn:Fn 10 1 [qaI 0 s,.pv (qaa tn td)] [(0,0,qak s)] (.tu [.ag [.pv (iV c.tn),.pv (iV c.td),.ls 1 c.s.length,.pv (iV 0),.ls 7 0,.ls 2 c.u.length,.ls 3 c.b.length,.ls 4 c.fr.length,.ls 6 0,.ls 5 c.wh.length,.ls 8 0],.one (.pv (iV 0))]) 8 [(8,0,qaU []),(7,0,qal []),(1,0,qak c.s),(2,0,zrI c.u),(3,0,zrB c.b),(4,0,zrI c.fr),(5,0,zrI c.wh),(6,0,qau [])]) (r0:Rl 2 2 12 0 46 14 ([(2,.ls 1 l.length),(6,.pp 4 0),(8,.pp 13 0),(10,.pv (iV ((0:Nat):Int)))]) ([(1,0,quL l),(4,0,.pv (iV 0)),(4,1,.pv (iV 0)),(4,2,.pv (.slice none 0 0)),(4,3,.pv (iV 0)),(4,4,.pv (.slice none 0 0)),(4,5,.pv (.slice none 0 0)),(4,6,.pv (.slice none 0 0)),(4,7,.pv (.slice none 0 0)),(4,8,.pv (.slice none 0 0)),(4,9,.pv (.slice none 0 0)),(4,10,.pv (.slice none 0 0)),(13,0,.pv (iV (Ck.mk c.tn c.td c.s 0 [] c.u c.b c.fr [] c.wh []).tn)),(13,1,.pv (iV (Ck.mk c.tn c.td c.s 0 [] c.u c.b c.fr [] c.wh []).td)),(13,2,.ls 5 (Ck.mk c.tn c.td c.s 0 [] c.u c.b c.fr [] c.wh []).s.length),(13,3,.pv (iV (Ck.mk c.tn c.td c.s 0 [] c.u c.b c.fr [] c.wh []).x)),(13,4,.ls 11 (Ck.mk c.tn c.td c.s 0 [] c.u c.b c.fr [] c.wh []).l.length),(13,5,.ls 6 (Ck.mk c.tn c.td c.s 0 [] c.u c.b c.fr [] c.wh []).u.length),(13,6,.ls 7 (Ck.mk c.tn c.td c.s 0 [] c.u c.b c.fr [] c.wh []).b.length),(13,7,.ls 8 (Ck.mk c.tn c.td c.s 0 [] c.u c.b c.fr [] c.wh []).fr.length),(13,8,.ls 10 (Ck.mk c.tn c.td c.s 0 [] c.u c.b c.fr [] c.wh []).ev.length),(13,9,.ls 9 (Ck.mk c.tn c.td c.s 0 [] c.u c.b c.fr [] c.wh []).wh.length),(13,10,.ls 12 (Ck.mk c.tn c.td c.s 0 [] c.u c.b c.fr [] c.wh []).d.length),(5,0,qak (Ck.mk c.tn c.td c.s 0 [] c.u c.b c.fr [] c.wh []).s),(11,0,qal (Ck.mk c.tn c.td c.s 0 [] c.u c.b c.fr [] c.wh []).l),(6,0,zrI (Ck.mk c.tn c.td c.s 0 [] c.u c.b c.fr [] c.wh []).u),(7,0,zrB (Ck.mk c.tn c.td c.s 0 [] c.u c.b c.fr [] c.wh []).b),(8,0,zrI (Ck.mk c.tn c.td c.s 0 [] c.u c.b c.fr [] c.wh []).fr),(10,0,qau (Ck.mk c.tn c.td c.s 0 [] c.u c.b c.fr [] c.wh []).ev),(9,0,zrI (Ck.mk c.tn c.td c.s 0 [] c.u c.b c.fr [] c.wh []).wh),(12,0,qaU (Ck.mk c.tn c.td c.s 0 [] c.u c.b c.fr [] c.wh []).d)]) (.exit 0) ([(6,.pp 4 0),(8,.pp 13 0)]) (qER o)) (hck:Fn 31 8 [qap o] (qaq o) (.pv (iV (0))) 0 []) :
 Fn 12 2 [qaI 0 s,.pv (qaa tn td),.ls 1 l.length] [(0,0,qak s),(1,0,quL l)] (.tu [qCv o,.one (.pv (.bool true))]) 8 [(2,0,qak o.s),(3,0,qal o.l),(4,0,zrI o.u),(5,0,zrB o.b),(6,0,zrI o.fr),(7,0,qau o.ev),(8,0,zrI o.wh),(9,0,qaU o.d)]:=
 Fz [(2,5),(3,11),(4,6),(5,7),(6,8),(7,10),(8,9),(9,12)] [Cf hn [0],.k,Lf r0,Cf hck [5,11,6,7,8,10,9,12],.k]
  (qaH (qaL [(2,5),(3,11),(4,6),(5,7),(6,8),(7,10),(8,9),(9,12)]) [(2,0,qak o.s),(3,0,qal o.l),(4,0,zrI o.u),(5,0,zrB o.b),(6,0,zrI o.fr),(7,0,qau o.ev),(8,0,zrI o.wh),(9,0,qaU o.d)]) (Co hn [0] 5 (Lo r0 [] (Co hck [5,11,6,7,8,10,9,12] 14 tI)))
theorem qmT {c o o1:Ck} {y z9:Ev} {p:Pt} (hg0:Fn 11 0 [.pv (iV (0))] [] (.ag [.ls 0 3]) 1 [(0,0,qak (qcs 0))]) (hat1:Pure Tryz.prog 13 #[iV 1] (qaa 1 1)) (hce:Fn 12 2 [qaI 0 (qcs 0),.pv (qaa 1 1),.ls 1 3] [(0,0,qak (qcs 0)),(1,0,quL [P2.mk 1 2,P2.mk 5 2,P2.mk 5 1])] (.tu [qCv c,.one (.pv (.bool true))]) 8 [(2,0,qak c.s),(3,0,qal c.l),(4,0,zrI c.u),(5,0,zrB c.b),(6,0,zrI c.fr),(7,0,qau c.ev),(8,0,zrI c.wh),(9,0,qaU c.d)]) (hat4:Pure Tryz.prog 13 #[iV 4] (qaa 4 1)) (hf1:Fn 19 8 [qap c,.pv (qaa 4 1)] (qaq c) (.tu [qgY o,.one (.pv (qab y)),.one (.pv (qag p.a p.b)),.one (.pv (iV 0))]) 8 (qdu o)) (hf2:Fn 19 8 [qap o,.pv (qaa 4 1)] (qaq o) (.pv (.tuple #[qcC,.agg #[iV 0,iV 0,iV 0,iV 0,iV 0],qag 0 0,iV 6])) 0 []) (hat6:Pure Tryz.prog 13 #[iV 6] (qaa 6 1)) (hmv:Fn 20 8 [qap o,.pv (qaa 6 1)] (qaq o) (.pv (.tuple #[qcC,iV 36])) 0 []) (hg1:Fn 11 0 [.pv (iV (1))] [] (.ag [.ls 0 3]) 1 [(0,0,qak (qcs 1))]) (hal1:Fn 21 9 [qap o,qaI 8 (qcs 1)] [(0,0,qak o.s),(1,0,qal o.l),(2,0,zrI o.u),(3,0,zrB o.b),(4,0,zrI o.fr),(5,0,qau o.ev),(6,0,zrI o.wh),(7,0,qaU o.d),(8,0,qak (qcs 1))] (.tu [.ag [.pv (iV o.tn),.pv (iV o.td),.ls 9 3,.pv (iV o.x),.ls 10 o.l.length,.ls 11 o1.u.length,.ls 12 o1.b.length,.ls 13 o1.fr.length,.ls 14 o1.ev.length,.ls 15 o1.wh.length,.ls 16 o1.d.length],.one (.pv (iV 0))]) 8 [(9,0,qak (qcs 1)),(10,0,qal o.l),(11,0,zrI o1.u),(12,0,zrB o1.b),(13,0,zrI o1.fr),(14,0,qau o1.ev),(15,0,zrI o1.wh),(16,0,qaU o1.d)]) (hnx:Fn 18 8 [qap ({ o1 with tn:=o.tn,td:=o.td,s:=qcs 1,x:=o.x,l:=o.l }:Ck)] (qaq ({ o1 with tn:=o.tn,td:=o.td,s:=qcs 1,x:=o.x,l:=o.l }:Ck)) (.pv (.tuple #[qab z9,iV 0])) 0 []) (t1:((c.d.length:Int)==2)=true) (hat2:Pure Tryz.prog 13 #[iV 2] (qaa 2 1)) (t2:(y.n==2&&(y.d==1&&true))=true) (t3:(p.a==1&&(p.b==2&&true))=true) (t4:(o.tn==2&&(o.td==1&&true))=true) (hat3:Pure Tryz.prog 13 #[iV 3] (qaa 3 1)) (t5:(z9.n==3&&(z9.d==1&&true))=true) (t6:(z9.k==1)=true) :
 Fn 24 0 [] [] (.pv (.bool true)) 0 []:=
 qcR 900 [] [Cf hg0 [],Rf hat1,.lw,Cf hce [0,1],.md,Rf hat4,Cf hf1 [2,3,4,5,6,7,8,9],Rf hat4,Cf hf2 [11,12,13,14,15,16,17,18],Rf hat6,Cf hmv [11,12,13,14,15,16,17,18],.md,Cf hg1 [],Cf hal1 [11,12,13,14,15,16,17,18,26],Cf hnx [27,28,29,30,31,32,33,34],.t true,.k,Rf hat2,.t true,.t true,Rf hat2,.t true,.k,.k,.k,.k,Rf hat3,.t true,.t true]
  tI (Co hg0 [] 0 (Ai hat1 (Co hce [0,1] 2 (Ai hat4 (Co hf1 [2,3,4,5,6,7,8,9] 11 (Ai hat4 (Co hf2 [11,12,13,14,15,16,17,18] 22 (Ai hat6 (Co hmv [11,12,13,14,15,16,17,18] 25 (Co hg1 [] 26 (Co hal1 [11,12,13,14,15,16,17,18,26] 27 (Co hnx [27,28,29,30,31,32,33,34] 36 (Ai t1 (Ai hat2 (Ai t2 (Ai t3 (Ai hat2 (Ai t4 (Ai hat3 (Ai t5 (Ai t6 tI))))))))))))))))))))) (by kernel_rfl)
end Go.Proofs.YtkjaanhddkkodaaGreat

namespace Go.Proofs.YtkjaanhddkkodaaGreat
set_option maxRecDepth 100000
open Go.RowKit
theorem wn9 {s:List Pt} {q g:Pt} {i j:Nat} {n a b tn td z:Int} {w:Bool} (hg:s[i]?=some g) (hq:s[j]?=some q) (hi:0≤(i:Int)∧(i:Int)<(s.length:Int)) (hj:0≤(j:Int)∧(j:Int)<(s.length:Int)) (ha:Fn 72 1 [qaI 0 s,.pv (iV (b))] [(0,0,qak s)] (.pv (iV (i:Int))) 0 []) (hb:Fn 72 1 [qaI 0 s,.pv (iV (a))] [(0,0,qak s)] (.pv (iV (j:Int))) 0 []) (hl:Pure Tryz.prog 83 #[ptV g,ptV q,qaa tn td] (.tuple #[qaa n z,.bool w])) :
 Fn 39 1 [qaI 0 s,.pv (qag a b),.pv (qaa tn td)] [(0,0,qak s)] (.pv (.tuple #[qaa n z,.bool w])) 0 []:=
 Fz [] [Cf ha [0],.r (ptV g),Cf hb [0],.r (ptV q),Rf hl]
  tI (Co ha [0] 5 (Ai hi (Ai (qaO hg) (Co hb [0] 5 (Ai hj (Ai (qaO hq) (Ai hl tI)))))))
theorem qvA {c:Ck} {tn td:Int} (hc:Fn 31 8 [qap c] (qaq c) (.pv (iV (8))) 0 []) :
 Fn 38 8 [qap c,.pv (qaa tn td)] (qaq c) (.pv (iV (8))) 0 []:=
 Fz [] [Cf hc [0,1,2,3,4,5,6,7],.k]
  tI (Co hc [0,1,2,3,4,5,6,7] 10 tI)
theorem qqL {c:Ck} {tn td:Int} (hc:Fn 31 8 [qap c] (qaq c) (.pv (iV (0))) 0 []) (ht:Pure Tryz.prog 75 #[qaa tn td] (iV (8))) :
 Fn 38 8 [qap c,.pv (qaa tn td)] (qaq c) (.pv (iV (8))) 0 []:=
 Fz [] [Cf hc [0,1,2,3,4,5,6,7],.k,Rf ht,.k]
  tI (Co hc [0,1,2,3,4,5,6,7] 10 (Ai ht tI))
theorem qqg {c:Ck} {n tn td:Int} (hc:Fn 31 8 [qap c] (qaq c) (.pv (iV (0))) 0 []) (ht:Pure Tryz.prog 75 #[qaa tn td] (iV (0))) (hm:Pure Tryz.prog 40 #[qaa tn td,qaa c.tn c.td] (iV (n))) (hn:decide (n<0)=true) :
 Fn 38 8 [qap c,.pv (qaa tn td)] (qaq c) (.pv (iV (44))) 0 []:=
 Fz [] [Cf hc [0,1,2,3,4,5,6,7],.k,Rf ht,.k,Rf hm,.t true]
  tI (Co hc [0,1,2,3,4,5,6,7] 10 (Ai ht (Ai hm (Ai hn tI))))
theorem qAS {c:Ck} {n tn td:Int} (hc:Fn 31 8 [qap c] (qaq c) (.pv (iV (0))) 0 []) (ht:Pure Tryz.prog 75 #[qaa tn td] (iV (0))) (hm:Pure Tryz.prog 40 #[qaa tn td,qaa c.tn c.td] (iV (n))) (hn:decide (n<0)=false) :
 Fn 38 8 [qap c,.pv (qaa tn td)] (qaq c) (.pv (iV (0))) 0 []:=
 Fz [] [Cf hc [0,1,2,3,4,5,6,7],.k,Rf ht,.k,Rf hm,.t false]
  tI (Co hc [0,1,2,3,4,5,6,7] 10 (Ai ht (Ai hm (Ai hn tI))))
theorem qDM {c:Ck} (g1:decide ((c.l.length:Int)>40)=true) :
 Fn 26 8 [qap c] (qaq c) (.pv (.bool true)) 0 []:=
 Fz [] [.t true]
  tI (Ai g1 tI)
theorem qDf {c:Ck} (g1:decide ((c.l.length:Int)>40)=false) (g2:decide ((c.d.length:Int)>40)=true) :
 Fn 26 8 [qap c] (qaq c) (.pv (.bool true)) 0 []:=
 Fz [] [.t false,.t true]
  tI (Ai g1 (Ai g2 tI))
theorem qCM {c:Ck} (g1:decide ((c.l.length:Int)>40)=false) (g2:decide ((c.d.length:Int)>40)=false) (hf:Fn 25 1 [qaI 0 c.s] [(0,0,qak c.s)] (.pv (.bool true)) 0 []) :
 Fn 26 8 [qap c] (qaq c) (.pv (.bool true)) 0 []:=
 Fz [] [.t false,.t false,Cf hf [0]]
  tI (Ai g1 (Ai g2 (Co hf [0] 9 tI)))
theorem qDo {c:Ck} (g1:decide ((c.l.length:Int)>40)=false) (g2:decide ((c.d.length:Int)>40)=false) (hf:Fn 25 1 [qaI 0 c.s] [(0,0,qak c.s)] (.pv (.bool false)) 0 []) (hg:Fn 68 5 [agA c.u c.b c.fr c.ev c.wh] [(0,0,zrI c.u),(1,0,zrB c.b),(2,0,zrI c.fr),(3,0,qau c.ev),(4,0,zrI c.wh)] (.pv (.bool true)) 0 []) :
 Fn 26 8 [qap c] (qaq c) (.pv (.bool true)) 0 []:=
 Fz [] [.t false,.t false,Cf hf [0],Cf hg [2,3,4,5,6]]
  tI (Ai g1 (Ai g2 (Co hf [0] 9 (Co hg [2,3,4,5,6] 9 tI))))
theorem qxg {c:Ck} (g1:decide ((c.l.length:Int)>40)=false) (g2:decide ((c.d.length:Int)>40)=false) (hf:Fn 25 1 [qaI 0 c.s] [(0,0,qak c.s)] (.pv (.bool false)) 0 []) (hg:Fn 68 5 [agA c.u c.b c.fr c.ev c.wh] [(0,0,zrI c.u),(1,0,zrB c.b),(2,0,zrI c.fr),(3,0,qau c.ev),(4,0,zrI c.wh)] (.pv (.bool false)) 0 []) :
 Fn 26 8 [qap c] (qaq c) (.pv (.bool false)) 0 []:=
 Fz [] [.t false,.t false,Cf hf [0],Cf hg [2,3,4,5,6]]
  tI (Ai g1 (Ai g2 (Co hf [0] 9 (Co hg [2,3,4,5,6] 9 tI))))
end Go.Proofs.YtkjaanhddkkodaaGreat

namespace Go.Proofs.YtkjaanhddkkodaaGreat
set_option maxRecDepth 100000
open Go.RowKit
theorem qBF {c:Ck} (h1:Pure Tryz.prog 75 #[qaa c.tn c.td] (iV (8))) :
 Fn 31 8 [qap c] (qaq c) (.pv (iV (8))) 0 []:=
 Fz [] [Rf h1,.k]
  tI (Ai h1 tI)
abbrev qpt (c:Ck):Prop:=Pure Tryz.prog 75 #[qaa c.tn c.td] (iV (0))
theorem qB7 {c:Ck} {n:Int} (h1:qpt c) (h2:Fn 44 1 [qaI 0 c.s] [(0,0,qak c.s)] (.pv (iV (n))) 0 []) (hne:(n !=0)=true) :
 Fn 31 8 [qap c] (qaq c) (.pv (iV (8))) 0 []:=
 Fz [] [Rf h1,.k,Cf h2 [0],.t true]
  tI (Ai h1 (Co h2 [0] 9 (Ai hne tI)))
abbrev qsa (c:Ck):Prop:=Fn 44 1 [qaI 0 c.s] [(0,0,qak c.s)] (.pv (iV (0))) 0 []
theorem qCi {c:Ck} (h1:qpt c) (h2:qsa c) (h3:Fn 76 1 [qaP 0 c.x c.l] [(0,0,qal c.l)] (.pv (iV (8))) 0 []) :
 Fn 31 8 [qap c] (qaq c) (.pv (iV (8))) 0 []:=
 Fz [] [Rf h1,.k,Cf h2 [0],.k,Cf h3 [1],.k]
  tI (Ai h1 (Co h2 [0] 9 (Co h3 [1] 9 tI)))
abbrev qs0 (c:Ck):Prop:=Fn 76 1 [qaP 0 c.x c.l] [(0,0,qal c.l)] (.pv (iV (0))) 0 []
theorem qDh {c:Ck} (h1:qpt c) (h2:qsa c) (h3:qs0 c) (h4:Fn 45 2 [qaP 0 c.x c.l,qaI 1 c.s] [(0,0,qal c.l),(1,0,qak c.s)] (.pv (.bool false)) 0 []) :
 Fn 31 8 [qap c] (qaq c) (.pv (iV (8))) 0 []:=
 Fz [] [Rf h1,.k,Cf h2 [0],.k,Cf h3 [1],.k,Cf h4 [1,0],.k]
  tI (Ai h1 (Co h2 [0] 9 (Co h3 [1] 9 (Co h4 [1,0] 9 tI))))
abbrev qBv (c:Ck):HpL:=[(0,0,zrI c.u),(1,0,zrB c.b),(2,0,zrI c.fr),(3,0,qau c.ev),(4,0,zrI c.wh)]
abbrev qwy (c:Ck):Prop:=Fn 45 2 [qaP 0 c.x c.l,qaI 1 c.s] [(0,0,qal c.l),(1,0,qak c.s)] (.pv (.bool true)) 0 []
theorem qCL {c:Ck} (h1:qpt c) (h2:qsa c) (h3:qs0 c) (h4:qwy c) (h5:Fn 77 5 [agA c.u c.b c.fr c.ev c.wh] (qBv c) (.pv (iV (8))) 0 []) :
 Fn 31 8 [qap c] (qaq c) (.pv (iV (8))) 0 []:=
 Fz [] [Rf h1,.k,Cf h2 [0],.k,Cf h3 [1],.k,Cf h4 [1,0],.k,Cf h5 [2,3,4,5,6],.k]
  tI (Ai h1 (Co h2 [0] 9 (Co h3 [1] 9 (Co h4 [1,0] 9 (Co h5 [2,3,4,5,6] 9 tI)))))
abbrev qxG (c:Ck):Prop:=Fn 77 5 [agA c.u c.b c.fr c.ev c.wh] (qBv c) (.pv (iV (0))) 0 []
theorem qBS {c:Ck} (h1:qpt c) (h2:qsa c) (h3:qs0 c) (h4:qwy c) (h5:qxG c) (h6:((c.wh.length:Int) !=200)=true) :
 Fn 31 8 [qap c] (qaq c) (.pv (iV (8))) 0 []:=
 Fz [] [Rf h1,.k,Cf h2 [0],.k,Cf h3 [1],.k,Cf h4 [1,0],.k,Cf h5 [2,3,4,5,6],.k,.t true]
  tI (Ai h1 (Co h2 [0] 9 (Co h3 [1] 9 (Co h4 [1,0] 9 (Co h5 [2,3,4,5,6] 9 (Ai h6 tI))))))
theorem qCF {c:Ck} (h1:qpt c) (h2:qsa c) (h3:qs0 c) (h4:qwy c) (h5:qxG c) (h6:((c.wh.length:Int) !=200)=false) (h7:((c.ev.length:Int) !=(c.d.length:Int))=true) :
 Fn 31 8 [qap c] (qaq c) (.pv (iV (8))) 0 []:=
 Fz [] [Rf h1,.k,Cf h2 [0],.k,Cf h3 [1],.k,Cf h4 [1,0],.k,Cf h5 [2,3,4,5,6],.k,.t false,.t true]
  tI (Ai h1 (Co h2 [0] 9 (Co h3 [1] 9 (Co h4 [1,0] 9 (Co h5 [2,3,4,5,6] 9 (Ai h6 (Ai h7 tI)))))))
abbrev qrW (j:Nat) (k:Nat):TmL:=[(1,.pp 8 0),(3,.pv (iV (j:Int))),(4,.pv (iV (k:Int)))]
theorem qo4 {c:Ck} {p:Pt} {j k:Nat} {n z:Int} (hk:c.l[k]?=some p) (hin:0≤(k:Int)∧(k:Int)<(c.l.length:Int)) (hlt:decide ((k:Int)<(c.l.length:Int))=true) (hw:Fn 39 1 [qaI 0 c.s,.pv (qag p.a p.b),.pv (qaa c.tn c.td)] [(0,0,qak c.s)] (.pv (.tuple #[qaa n z,.bool false])) 0 []) (hs:iV (IntKind.i64.wrap ((k:Int)+1))=iV (((k+1:Nat):Int))) {e:Exit} {tm2:TmL} {hp2:HpL}
 (r:Rl 8 8 31 0 133 9 ([(1,.pp 8 0),(3,.pv (iV (j:Int))),(4,.pv (iV ((k+1:Nat):Int)))]) (qbr 8 c) e tm2 hp2):Rl 8 8 31 0 133 9 (qrW j k) (qbr 8 c) e tm2 hp2:=
 RunsL.next [] 300 [.t true,.r (ptV p),Cf hw [0],.k,Re hs]
  (Ro (Ai hlt (Ai hin (Ai (qaO hk) (Co hw [0] 10 (Ai hs tI)))))) r
abbrev qwH (c:Ck) (n:Int) (p:Pt) (z:Int):Prop:=Fn 39 1 [qaI 0 c.s,.pv (qag p.a p.b),.pv (qaa c.tn c.td)] [(0,0,qak c.s)] (.pv (.tuple #[qaa n z,.bool true])) 0 []
theorem qtk {c:Ck} {p:Pt} {j k:Nat} {n z:Int} (hk:c.l[k]?=some p) (hin:0≤(k:Int)∧(k:Int)<(c.l.length:Int)) (hlt:decide ((k:Int)<(c.l.length:Int))=true) (hw:qwH c n p z) (hj:decide ((j:Int)≥(c.d.length:Int))=true):Rl 8 8 31 0 133 9 (qrW j k) (qbr 8 c) (.ret) ([(2,.pv (iV 8))]) ([]):=
 RunsL.stop [] 300 [.t true,.r (ptV p),Cf hw [0],.k,.t true] (fun h=>by cases h)
  (Ro (Ai hlt (Ai hin (Ai (qaO hk) (Co hw [0] 10 (Ai hj tI))))))
theorem qtI {c:Ck} {p q:Pt} {j k:Nat} {n z:Int} (hk:c.l[k]?=some p) (hin:0≤(k:Int)∧(k:Int)<(c.l.length:Int)) (hlt:decide ((k:Int)<(c.l.length:Int))=true) (hq:c.d[j]?=some q) (hiq:0≤(j:Int)∧(j:Int)<(c.d.length:Int)) (hw:qwH c n p z) (hj:decide ((j:Int)≥(c.d.length:Int))=false) (hne:(q.id !=p.id)=true):Rl 8 8 31 0 133 9 (qrW j k) (qbr 8 c) (.ret) ([(2,.pv (iV 8))]) ([]):=
 RunsL.stop [] 300 [.t true,.r (ptV p),Cf hw [0],.k,.t false,.r (iV q.id),.t true] (fun h=>by cases h)
  (Ro (Ai hlt (Ai hin (Ai (qaO hk) (Co hw [0] 10 (Ai hj (Ai hiq (Ai (qnJ hq) (Ai hne tI)))))))))
theorem qp2 {c:Ck} {p q:Pt} {j k:Nat} {n z e:Int} {y:Ev} (hk:c.l[k]?=some p) (hin:0≤(k:Int)∧(k:Int)<(c.l.length:Int)) (hlt:decide ((k:Int)<(c.l.length:Int))=true) (hq:c.d[j]?=some q) (hiq:0≤(j:Int)∧(j:Int)<(c.d.length:Int)) (hw:qwH c n p z) (hj:decide ((j:Int)≥(c.d.length:Int))=false) (hne:(q.id !=p.id)=false) (hf:Fn 78 5 [agA c.u c.b c.fr c.ev c.wh,.pv (qaJ q.a q.b)] (qBv c) (.pv (.tuple #[qab y,iV (e)])) 0 []) (he:(e !=0)=true):Rl 8 8 31 0 133 9 (qrW j k) (qbr 8 c) (.ret) ([(2,.pv (iV 8))]) ([]):=
 RunsL.stop [] 300 [.t true,.r (ptV p),Cf hw [0],.k,.t false,.r (iV q.id),.t false,.r (qaJ q.a q.b),Cf hf [2,3,4,5,6],.t true] (fun h=>by cases h)
  (Ro (Ai hlt (Ai hin (Ai (qaO hk) (Co hw [0] 10 (Ai hj (Ai hiq (Ai (qnJ hq) (Ai hne (Ai hiq (Ai (qco hq) (Co hf [2,3,4,5,6] 11 (Ai he tI)))))))))))))
abbrev qt2 (c:Ck) (q:Pt) (y:Ev):Prop:=Fn 78 5 [agA c.u c.b c.fr c.ev c.wh,.pv (qaJ q.a q.b)] (qBv c) (.pv (.tuple #[qab y,iV (0)])) 0 []
theorem qmu {c:Ck} {p q:Pt} {j k:Nat} {n z:Int} {y:Ev} (hk:c.l[k]?=some p) (hin:0≤(k:Int)∧(k:Int)<(c.l.length:Int)) (hlt:decide ((k:Int)<(c.l.length:Int))=true) (hq:c.d[j]?=some q) (hiq:0≤(j:Int)∧(j:Int)<(c.d.length:Int)) (hw:qwH c n p z) (hj:decide ((j:Int)≥(c.d.length:Int))=false) (hne:(q.id !=p.id)=false) (hf:qt2 c q y) (hk2:(y.k !=p.id)=true):Rl 8 8 31 0 133 9 (qrW j k) (qbr 8 c) (.ret) ([(2,.pv (iV 8))]) ([]):=
 RunsL.stop [] 300 [.t true,.r (ptV p),Cf hw [0],.k,.t false,.r (iV q.id),.t false,.r (qaJ q.a q.b),Cf hf [2,3,4,5,6],.k,.t true] (fun h=>by cases h)
  (Ro (Ai hlt (Ai hin (Ai (qaO hk) (Co hw [0] 10 (Ai hj (Ai hiq (Ai (qnJ hq) (Ai hne (Ai hiq (Ai (qco hq) (Co hf [2,3,4,5,6] 11 (Ai hk2 tI)))))))))))))
theorem qp1 {c:Ck} {p q:Pt} {j k:Nat} {n z:Int} {y:Ev} (hk:c.l[k]?=some p) (hin:0≤(k:Int)∧(k:Int)<(c.l.length:Int)) (hlt:decide ((k:Int)<(c.l.length:Int))=true) (hq:c.d[j]?=some q) (hiq:0≤(j:Int)∧(j:Int)<(c.d.length:Int)) (hw:qwH c n p z) (hj:decide ((j:Int)≥(c.d.length:Int))=false) (hne:(q.id !=p.id)=false) (hf:qt2 c q y) (hk2:(y.k !=p.id)=false) (ht2:(!(y.n==n&&(y.d==z&&true)))=true):Rl 8 8 31 0 133 9 (qrW j k) (qbr 8 c) (.ret) ([(2,.pv (iV 8))]) ([]):=
 RunsL.stop [] 300 [.t true,.r (ptV p),Cf hw [0],.k,.t false,.r (iV q.id),.t false,.r (qaJ q.a q.b),Cf hf [2,3,4,5,6],.k,.t false,.t true] (fun h=>by cases h)
  (Ro (Ai hlt (Ai hin (Ai (qaO hk) (Co hw [0] 10 (Ai hj (Ai hiq (Ai (qnJ hq) (Ai hne (Ai hiq (Ai (qco hq) (Co hf [2,3,4,5,6] 11 (Ai hk2 (Ai ht2 tI))))))))))))))
theorem qo3 {c:Ck} {p q:Pt} {j k:Nat} {n z:Int} {y:Ev} (hk:c.l[k]?=some p) (hin:0≤(k:Int)∧(k:Int)<(c.l.length:Int)) (hlt:decide ((k:Int)<(c.l.length:Int))=true) (hq:c.d[j]?=some q) (hiq:0≤(j:Int)∧(j:Int)<(c.d.length:Int)) (hw:qwH c n p z) (hj:decide ((j:Int)≥(c.d.length:Int))=false) (hne:(q.id !=p.id)=false) (hf:qt2 c q y) (hk2:(y.k !=p.id)=false) (ht2:(!(y.n==n&&(y.d==z&&true)))=false) (hs2:iV (IntKind.i64.wrap ((j:Int)+1))=iV (((j+1:Nat):Int))) (hs:iV (IntKind.i64.wrap ((k:Int)+1))=iV (((k+1:Nat):Int))) {e:Exit} {tm2:TmL} {hp2:HpL}
 (r:Rl 8 8 31 0 133 9 ([(1,.pp 8 0),(3,.pv (iV ((j+1:Nat):Int))),(4,.pv (iV ((k+1:Nat):Int)))]) (qbr 8 c) e tm2 hp2):Rl 8 8 31 0 133 9 (qrW j k) (qbr 8 c) e tm2 hp2:=
 RunsL.next [] 300 [.t true,.r (ptV p),Cf hw [0],.k,.t false,.r (iV q.id),.t false,.r (qaJ q.a q.b),Cf hf [2,3,4,5,6],.k,.t false,.t false,Re hs2,Re hs]
  (Ro (Ai hlt (Ai hin (Ai (qaO hk) (Co hw [0] 10 (Ai hj (Ai hiq (Ai (qnJ hq) (Ai hne (Ai hiq (Ai (qco hq) (Co hf [2,3,4,5,6] 11 (Ai hk2 (Ai ht2 (Ai hs2 (Ai hs tI)))))))))))))))) r
theorem qv7 {c:Ck} {j k:Nat} (hge:decide ((k:Int)<(c.l.length:Int))=false):Rl 8 8 31 0 133 9 (qrW j k) (qbr 8 c) (.exit 0) ([(1,.pp 8 0),(3,.pv (iV (j:Int)))]) (qbr 8 c):=
 RunsL.stop [] 300 [.t false] (fun h=>by cases h)
  (Ro (Ai hge tI))
theorem quB {c:Ck} (h1:qpt c) (h2:qsa c) (h3:qs0 c) (h4:qwy c) (h5:qxG c) (h6:((c.wh.length:Int) !=200)=false) (h7:((c.ev.length:Int) !=(c.d.length:Int))=false) (r0:Rl 8 8 31 0 133 9 ([(1,.pp 8 0),(3,.pv (iV ((0:Nat):Int))),(4,.pv (iV ((0:Nat):Int)))]) (qbr 8 c) (.ret) ([(2,.pv (iV 8))]) ([])) :
 Fn 31 8 [qap c] (qaq c) (.pv (iV (8))) 0 []:=
 Fz [] [Rf h1,.k,Cf h2 [0],.k,Cf h3 [1],.k,Cf h4 [1,0],.k,Cf h5 [2,3,4,5,6],.k,.t false,.t false,Lf r0]
  tI (Ai h1 (Co h2 [0] 9 (Co h3 [1] 9 (Co h4 [1,0] 9 (Co h5 [2,3,4,5,6] 9 (Ai h6 (Ai h7 (Lo r0 [] tI))))))))
abbrev qEH (c:Ck) (j:Nat):Prop:=Rl 8 8 31 0 133 9 ([(1,.pp 8 0),(3,.pv (iV ((0:Nat):Int))),(4,.pv (iV ((0:Nat):Int)))]) (qbr 8 c) (.exit 0) ([(1,.pp 8 0),(3,.pv (iV (j:Int)))]) (qbr 8 c)
theorem qox {c:Ck} {j:Nat} (h1:qpt c) (h2:qsa c) (h3:qs0 c) (h4:qwy c) (h5:qxG c) (h6:((c.wh.length:Int) !=200)=false) (h7:((c.ev.length:Int) !=(c.d.length:Int))=false) (r0:qEH c j) (hd:((j:Int) !=(c.d.length:Int))=true) :
 Fn 31 8 [qap c] (qaq c) (.pv (iV (8))) 0 []:=
 Fz [] [Rf h1,.k,Cf h2 [0],.k,Cf h3 [1],.k,Cf h4 [1,0],.k,Cf h5 [2,3,4,5,6],.k,.t false,.t false,Lf r0,.t true]
  tI (Ai h1 (Co h2 [0] 9 (Co h3 [1] 9 (Co h4 [1,0] 9 (Co h5 [2,3,4,5,6] 9 (Ai h6 (Ai h7 (Lo r0 [] (Ai hd tI)))))))))
theorem qxA {c:Ck} {j:Nat} (h1:qpt c) (h2:qsa c) (h3:qs0 c) (h4:qwy c) (h5:qxG c) (h6:((c.wh.length:Int) !=200)=false) (h7:((c.ev.length:Int) !=(c.d.length:Int))=false) (r0:qEH c j) (hd:((j:Int) !=(c.d.length:Int))=false) :
 Fn 31 8 [qap c] (qaq c) (.pv (iV (0))) 0 []:=
 Fz [] [Rf h1,.k,Cf h2 [0],.k,Cf h3 [1],.k,Cf h4 [1,0],.k,Cf h5 [2,3,4,5,6],.k,.t false,.t false,Lf r0,.t false]
  tI (Ai h1 (Co h2 [0] 9 (Co h3 [1] 9 (Co h4 [1,0] 9 (Co h5 [2,3,4,5,6] 9 (Ai h6 (Ai h7 (Lo r0 [] (Ai hd tI)))))))))
end Go.Proofs.YtkjaanhddkkodaaGreat

namespace Go.Proofs.YtkjaanhddkkodaaGreat
set_option maxRecDepth 100000
open Go.RowKit
theorem qjd (l:List Pt) (k:Nat) (h:k+1≤l.length):some (SV.row 54 3 (0+k+(l.length-(k+1))) ([]++((qbt l).drop (0*3)).take (k*3)++((qbt l).drop ((0+(k+1))*3)).take ((l.length-(k+1))*3)))=some (qaU (l.take k++l.drop (k+1))):=by
 have h1:=qip l k
 have h2:=qiy l (k+1)
 rw[Nat.zero_add] at h1
 rw[h1,h2,qaU,qgc l k h,qbY,List.nil_append]
end Go.Proofs.YtkjaanhddkkodaaGreat
