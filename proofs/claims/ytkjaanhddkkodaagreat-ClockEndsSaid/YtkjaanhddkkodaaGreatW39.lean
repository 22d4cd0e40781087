/-
  Joined: Yp, Yv, Vf, Vl, Ys, Yz, Lb, Bj, Bk, Lc. Conditions: none.
-/
import Derived.Test.YtkjaanhddkkodaaGreatYo
import Derived.Test.YtkjaanhddkkodaaGreatW18
import Derived.Test.YtkjaanhddkkodaaGreatZj
import Derived.Test.YtkjaanhddkkodaaGreatW27
import Derived.Test.YtkjaanhddkkodaaGreatW26
import Derived.Test.YtkjaanhddkkodaaGreatSxP
namespace Go.Proofs.YtkjaanhddkkodaaGreat
set_option maxRecDepth 100000
open Go.RowKit
structure P2 where
 a:Int
 b:Int
deriving DecidableEq
def p2V:List P2→List Value
 | []=>[]
 | m::r=>iV m.a::iV m.b::p2V r
abbrev qFm (l:List P2):SV:=.row 23 2 l.length (p2V l)
abbrev qFl (l:List P2):SV:=.row 52 2 l.length (p2V l)
theorem qnr:∀ {l:List P2} {k:Nat} {m:P2},l[k]?=some m→(p2V l)[k*2]?=some (iV m.a)∧(p2V l)[k*2+1]?=some (iV m.b)
 | [],k,p,h=>by simp at h
 | q::r,0,p,h=>by simp at h;subst h;exact⟨rfl,rfl⟩
 | q::r,k+1,p,h=>by
  have:=qnr (l:=r) (k:=k) (m:=p) (by simpa using h)
  rw[show (k+1)*2=k*2+1+1 by omega]
  exact this
theorem qD8 {l:List P2} {k:Nat} {m:P2} (h:l[k]?=some m):qcL (p2V l) (0*2+k*2) [iV m.a,iV m.b]:=by
 obtain⟨h1,h2⟩:=qnr h
 intro j v hj
 rw[show 0*2+k*2+j=k*2+j by omega]
 match j,hj with
 | 0,hj=>cases hj;exact h1
 | 1,hj=>cases hj;exact h2
 | j+2,hj=>simp at hj
end Go.Proofs.YtkjaanhddkkodaaGreat

namespace Go.Proofs.YtkjaanhddkkodaaGreat
set_option maxRecDepth 100000
open Go.ChangeShapes Go.WideShapes Go.ChangeAt Go.RowKit Go.Joins Go.Deep
theorem qBP:Tryz.prog.cellsOf 62=5:=by kernel_rfl
theorem qyb:Tryz.prog.cellsOf 23=2:=by kernel_rfl
theorem qyN:Tryz.prog.cellsOf 52=2:=by kernel_rfl
theorem qr7:Tryz.prog.cellsOf 2=1:=by kernel_rfl
theorem qCV:Tryz.prog.cellsOf 34=1:=by kernel_rfl
theorem qC3:Tryz.prog.cellsOf 36=5:=by kernel_rfl
theorem qAQ {n:Int} (h:(Lit.int .i64 n).wf=true):I64 n:=by
 simp only[Lit.wf,Bool.and_eq_true,decide_eq_true_eq] at h
 have h1:IntKind.i64.min = -9223372036854775808:=by decide
 have h2:IntKind.i64.max=9223372036854775807:=by decide
 rw[h1,h2] at h
 exact h
section
variable {H:Type} {enc:TypeId×Value→H} {W:World} {base:Nat} {spare:Nat→Bool} {held:Bool}
theorem qAJ (f:Nat→Ev):∀ (n j:Nat) (v:Value),(qaJ ((List.range n).map f))[j]?=some v→j/5<n∧(ecV (f (j/5)))[j%5]?=some v:=by
 intro n j v h
 have hj:j<n*5:=by
  have:=(List.getElem?_eq_some_iff.1 h).1
  rw[qa8] at this
  simpa using this
 have hk:j/5<n:=by omega
 obtain⟨g0,g1,g2,g3,g4⟩:=qda (l:=(List.range n).map f) (k:=j/5) (m:=f (j/5)) (by simp[hk])
 refine⟨hk,?_⟩
 have h5:j%5=0∨j%5=1∨j%5=2∨j%5=3∨j%5=4:=by omega
 have e:j=j/5*5+j%5:=by omega
 rw[e] at h
 rcases h5 with e3 | e3 | e3 | e3 | e3<;>rw[e3] at h ⊢
 ·rw[Nat.add_zero,g0] at h;exact h
 ·rw[g1] at h;exact h
 ·rw[g2] at h;exact h
 ·rw[g3] at h;exact h
 ·rw[g4] at h;exact h
theorem qqn {fuel:Nat} {cs:List Value} {x:DataW H×List MemPlace} (h:DataW.trod enc Tryz.prog W base spare held fuel 34 cs=some x) :
 ∃ (u:Value) (l:List Ev),cs=[u]∧Rd W 5 u l.length (qaJ l)∧∀ p∈l,EvI p:=by
 rcases open_slice Tryz.underlying34 h with ⟨rfl,_⟩ | ⟨a,len,cap,m,n,D,Pl,rfl,_,hlc,_,hm,_,hi⟩
 ·exact⟨_,[],rfl,⟨rfl,none,0,rfl,Nat.le_refl _,fun j v hv=>by simp[qaJ] at hv⟩,fun p hp=>by simp at hp⟩
 have hlm:len≤m:=by rw[hm];split<;>omega
 have each:∀ i,i<len→∃ p:Ev,(W.cell? (a.add (i*5))=some (iV p.n)∧W.cell? (a.add (i*5+1))=some (iV p.d)∧W.cell? (a.add (i*5+2))=some (iV p.k)∧W.cell? (a.add (i*5+3))=some (iV p.i)∧W.cell? (a.add (i*5+4))=some (iV p.w))∧EvI p:=by
  intro i hil
  obtain⟨cs',hc,ht⟩:=hi i (by omega)
  rw[qBP] at hc
  obtain⟨y0,y1,y2,n',_,hlen,t0,t1,t2⟩:=trod_struct3 Tryz.underlying62 ht
  obtain⟨z0,z1,n2,_,hlen2,s0,s1⟩:=trod_struct2 Tryz.underlying23 t0
  obtain⟨z2,z3,n3,_,hlen3,s2,s3⟩:=trod_struct2 Tryz.underlying52 t2
  obtain⟨_,hcl,hat⟩:=World.cells?_some hc
  match cs',hcl with
  | [c0,c1,c2,c3,c4],_=>
   obtain⟨pn,e0,_,w0⟩:=DataW.trod_int Tryz.underlying2 s0
   obtain⟨pd,e1,_,w1⟩:=DataW.trod_int Tryz.underlying2 s1
   obtain⟨pk,e2,_,w2⟩:=DataW.trod_int Tryz.underlying3 t1
   obtain⟨pi,e3,_,w3⟩:=DataW.trod_int Tryz.underlying3 s2
   obtain⟨pw,e4,_,w4⟩:=DataW.trod_int Tryz.underlying3 s3
   simp[qwR,qr7,qyb,qyN] at e0 e1 e2 e3 e4
   refine⟨⟨pn,pd,pk,pi,pw⟩,⟨?_,?_,?_,?_,?_⟩,qAQ w0,qAQ w1⟩
   ·have:=hat 0 (by omega);rw[add_add] at this;simpa [e0] using this
   ·have:=hat 1 (by omega);rw[add_add] at this;simpa [e1] using this
   ·have:=hat 2 (by omega);rw[add_add] at this;simpa [e2] using this
   ·have:=hat 3 (by omega);rw[add_add] at this;simpa [e3] using this
   ·have:=hat 4 (by omega);rw[add_add] at this;simpa [e4] using this
 haveI:Inhabited Ev:=⟨⟨0,0,0,0,0⟩⟩
 obtain⟨f,hf⟩:=choose_lt (α:=Ev) each
 refine⟨_,(List.range len).map f,rfl,⟨qa8 _,some a,cap,by simp,by simpa using hlc,fun j v hv=>?_⟩,fun p hp=>?_⟩
 ·obtain⟨hk,he⟩:=qAJ f len j v hv
  obtain⟨c0,c1,c2,c3,c4⟩:=(hf _ hk).1
  have hcell:W.cell? (a.add j)=some v:=by
   have h5:j%5=0∨j%5=1∨j%5=2∨j%5=3∨j%5=4:=by omega
   have e:j=j/5*5+j%5:=by omega
   rcases h5 with e3 | e3 | e3 | e3 | e3<;>rw[e3] at he e<;>rw[e]<;>simp at he<;>subst he
   ·exact c0
   ·exact c1
   ·exact c2
   ·exact c3
   ·exact c4
  obtain⟨b,off,spot⟩:=a
  have hs:spot=none:=by simpa [Addr.add] using World.cell?_spot (hf 0 (by omega)).1.1
  subst hs
  exact⟨b,off,rfl,by rw[← Go.WideShapes.add_plain];exact hcell⟩
 ·obtain⟨i,hi',rfl⟩:=List.mem_map.1 hp
  exact (hf i (List.mem_range.1 hi')).2
end
end Go.Proofs.YtkjaanhddkkodaaGreat

namespace Go.Proofs.YtkjaanhddkkodaaGreat
set_option maxRecDepth 100000
open Go.RowKit
theorem qo5 {u fr wh:List Int} {b:List Bool} {ev:List Ev} {hi hw:Int} (hc:Fn 77 5 [agA u b fr ev wh] [(0,0,zrI u),(1,0,zrB b),(2,0,zrI fr),(3,0,qat ev),(4,0,zrI wh)] (.pv (iV (0))) 0 []) (hl:Fn 132 3 [.ag [.ls 0 u.length,.ls 1 b.length,.ls 2 fr.length],.pv (qaI hi hw)] [(0,0,zrI u),(1,0,zrB b),(2,0,zrI fr)] (.pv (.bool false)) 0 []) :
 Fn 78 5 [agA u b fr ev wh,.pv (qaI hi hw)] [(0,0,zrI u),(1,0,zrB b),(2,0,zrI fr),(3,0,qat ev),(4,0,zrI wh)] (.pv (.tuple #[.agg #[iV 0,iV 0,iV 0,iV 0,iV 0],iV 6])) 0 []:=
 Fz [] [Cf hc [0,1,2,3,4],.k,Cf hl [0,1,2],.k]
  tI (Co hc [0,1,2,3,4] 8 (Co hl [0,1,2] 8 tI))
theorem qAc {u fr wh:List Int} {b:List Bool} {ev:List Ev} {x:Ev} {hi hw:Int} {j:Nat} (hc:Fn 77 5 [agA u b fr ev wh] [(0,0,zrI u),(1,0,zrB b),(2,0,zrI fr),(3,0,qat ev),(4,0,zrI wh)] (.pv (iV (0))) 0 []) (hl:Fn 132 3 [.ag [.ls 0 u.length,.ls 1 b.length,.ls 2 fr.length],.pv (qaI hi hw)] [(0,0,zrI u),(1,0,zrB b),(2,0,zrI fr)] (.pv (.bool true)) 0 []) (hiw:0≤hi∧hi<(wh.length:Int)) (hw_:wh[hi.toNat]?=some (j:Int)) (hij:0≤(j:Int)∧(j:Int)<(ev.length:Int)) (hx:ev[j]?=some x) :
 Fn 78 5 [agA u b fr ev wh,.pv (qaI hi hw)] [(0,0,zrI u),(1,0,zrB b),(2,0,zrI fr),(3,0,qat ev),(4,0,zrI wh)] (.pv (.tuple #[qab x,iV 0])) 0 []:=
 Fz [] [Cf hc [0,1,2,3,4],.k,Cf hl [0,1,2],.k,.md,.r (iV (j:Int)),.r (qab x)]
  tI (Co hc [0,1,2,3,4] 8 (Co hl [0,1,2] 8 (Ai hiw (Ai (qeV hw_) (Ai hij (Ai (qbe hx) tI))))))
end Go.Proofs.YtkjaanhddkkodaaGreat

namespace Go.Proofs.YtkjaanhddkkodaaGreat
set_option maxRecDepth 100000
open Go.RowKit
section
variable {u fr wh:List Int} {b:List Bool} {ev:List Ev}
theorem qkB {hi hw:Int} (h:VA u b fr ev wh) (hl:¬ Live u b hi hw):Fn 78 5 [agA u b fr ev wh,.pv (qaI hi hw)] (agP u b fr ev wh) (.pv (.tuple #[evZ,iV 6])) 0 []:=qo5 (hc:=qea h) (hl:=qjD h.vd hl)
theorem qku {hi hw:Int} {j:Nat} {x:Ev} (h:VA u b fr ev wh) (hl:Live u b hi hw) (hj:wh[hi.toNat]?=some (j:Int)) (hx:ev[j]?=some x):Fn 78 5 [agA u b fr ev wh,.pv (qaI hi hw)] (agP u b fr ev wh) (.pv (.tuple #[qab x,iV 0])) 0 []:=by
 have:=(List.getElem?_eq_some_iff.1 hj).1
 have:=(List.getElem?_eq_some_iff.1 hx).1
 have:=hl.lo
 exact qAc (hc:=qea h) (hl:=qid h.vd hl) (hiw:=by omega) (hw_:=hj) (hij:=by omega) (hx:=hx)
end
end Go.Proofs.YtkjaanhddkkodaaGreat

namespace Go.Proofs.YtkjaanhddkkodaaGreat
set_option maxRecDepth 100000
open Go.RowKit
def qlO:Int→List P2→List P2→List Ev
 | i,r::rs,h::hs=>⟨r.a,r.b,i,h.a,h.b⟩::qlO (i+1) rs hs
 | _,_,_=>[]
theorem qhn:∀ (i:Int) (rs hs:List P2) (r h:P2),rs.length=hs.length→qlO i (rs++[r]) (hs++[h])=qlO i rs hs++[⟨r.a,r.b,i+(rs.length:Int),h.a,h.b⟩]
 | i,[],[],r,h,_=>by simp[qlO]
 | i,[],_::_,r,h,e=>by simp at e
 | i,_::_,[],r,h,e=>by simp at e
 | i,a::rs,c::hs,r,h,e=>by
  have:=qhn (i+1) rs hs r h (by simpa using e)
  simp only[List.cons_append,qlO,this,List.length_cons]
  congr 3
  congr 1
  omega
theorem qrM:∀ {i:Int} {rs hs:List P2} {x:Ev},x∈qlO i rs hs→i≤x.k∧x.k<i+(rs.length:Int)
 | i,[],_,x,h=>by simp[qlO] at h
 | i,_::_,[],x,h=>by simp[qlO] at h
 | i,r::rs,c::hs,x,h=>by
  simp only[qlO,List.mem_cons] at h
  rcases h with rfl | h
  ·simp only[List.length_cons];omega
  ·have:=qrM h
   simp only[List.length_cons];omega
structure FS (rs:List P2) (k:Nat) (u:List Int) (b:List Bool) (fr:List Int) (ev:List Ev) (wh:List Int) (hv:List P2):Prop where
 va:VA u b fr ev wh
 len:hv.length=k
 ul:u.length=50
 ub:∀ y∈u,y≤(k:Int)
 perm:ev.Perm (qlO 0 (rs.take k) hv)
 live:∀ h∈hv,Live u b h.a h.b
def qFf (rs:List P2):Prop:=∀ r∈rs,(I64 r.a∧I64 r.b)∧okB r.a r.b=true
theorem FS.step {rs:List P2} {k:Nat} {u:List Int} {b:List Bool} {fr:List Int} {ev:List Ev} {wh:List Int} {hv:List P2} (h:FS rs k u b fr ev wh hv) (ho:qFf rs) (hk:k<rs.length) (hl:rs.length≤30) {ra:P2} (hr:rs[k]?=some ra) :
 ∃ u2 b2 f2 hi hw,qbB u b fr=some (u2,b2,f2,hi,hw)∧cnE ev (k:Int)=0∧FS rs (k+1) u2 b2 f2 (qa6 ev wh ⟨ra.a,ra.b,(k:Int),hi,hw⟩).1 (qa6 ev wh ⟨ra.a,ra.b,(k:Int),hi,hw⟩).2 (hv++[⟨hi,hw⟩]):=by
 obtain⟨ht,h0⟩:=ho ra (List.mem_of_getElem? hr)
 have hcnt:=h.va.vd.count
 have hel:ev.length=k:=by
  have h1:=h.perm.length_eq
  have:∀ (i:Int) (rs hs:List P2),rs.length=hs.length→(qlO i rs hs).length=hs.length:=by
   intro i rs hs
   induction rs generalizing i hs with
   | nil=>intro e;cases hs with
    | nil=>rfl
    | cons a r=>simp at e
   | cons a r ih=>intro e;cases hs with
    | nil=>simp at e
    | cons c q=>simp only[qlO,List.length_cons];rw[ih (i+1) q (by simpa using e)]
  rw[this 0 (rs.take k) hv (by rw[List.length_take,h.len];omega),h.len] at h1
  exact h1
 have hc2:=h.va.wf.cnt
 have hul:=h.ul
 have hne:fr≠[]:=fun e=>by rw[e] at hcnt;simp at hcnt;omega
 have hlast:=List.getLast?_eq_some_getLast hne
 generalize fr.getLast hne=hi at hlast
 have hin:=h.va.vd.rng hi (by obtain⟨e,_,_⟩:=qbQ hlast;rw[e];simp)
 have hy:u[hi.toNat]?=some (u[hi.toNat]'(by omega)):=List.getElem?_eq_getElem (by omega)
 generalize u[hi.toNat]'(by omega)=y at hy
 have hyb:=h.ub y (List.mem_of_getElem? hy)
 have htk:qbB u b fr=some (u.set hi.toNat (y+1),b.set hi.toNat true,fr.dropLast,hi,y+1):=by
  unfold qbB
  simp only[hlast,hy]
  rw[if_neg (by omega)]
 have hcn:cnE ev (k:Int)=0:=by
  unfold cnE
  rw[if_pos (by omega),if_neg]
  rintro⟨m,hm,e⟩
  have:=qrM (h.perm.mem_iff.1 hm)
  rw[List.length_take] at this
  omega
 obtain⟨v1,v2,v3,v4⟩:=h.va.push (z:=(k:Int)) ht h0 hcn htk
 refine⟨_,_,_,_,_,htk,hcn,v1,by simp[h.len],by rw[List.length_set];exact hul,fun q hq=>?_,?_,fun q hq=>?_⟩
 ·rcases List.mem_or_eq_of_mem_set hq with hq | hq
  ·have:=h.ub q hq;omega
  ·omega
 ·rw[List.take_add_one,hr]
  have e:=qhn 0 (rs.take k) hv ra ⟨hi,y+1⟩ (by rw[List.length_take,h.len];omega)
  rw[show (some ra).toList=[ra] from rfl,e,List.length_take,show (0:Int)+((min k rs.length:Nat):Int)=(k:Int) by omega]
  exact v2.trans (h.perm.append_right _)
 ·rcases List.mem_append.1 hq with hq | hq
  ·exact v4 _ _ (h.live q hq)
  ·rw[List.mem_singleton] at hq
   subst hq
   exact v3
theorem VA.new {n:Nat} (h1:1≤n) (h2:n≤200):VA (List.replicate n 0) (List.replicate n false) (qeg n) [] (List.replicate n (-1)):=by
 refine VA.of (Vd.new h1 h2) (by simp) (fun j x hx=>by simp at hx) (fun x hx=>by simp at hx) (fun k hk=>?_) (fun k hk=>?_) (by simp[List.count_replicate]) (fun x hx=>by simp at hx) (by simp) (fun k _ x y hx=>by simp at hx)
 ·have:=List.eq_of_mem_replicate (List.mem_of_getElem? hk)
  cases this
 ·have:=(List.getElem?_eq_some_iff.1 hk).1
  simp at this
  simp[this]
end Go.Proofs.YtkjaanhddkkodaaGreat

namespace Go.Proofs.YtkjaanhddkkodaaGreat
set_option maxRecDepth 100000
open Go.RowKit
section
variable {u fr wh:List Int} {b:List Bool} {ev:List Ev}
theorem VA.one {x y:Ev} (h:VA u b fr ev wh) (hx:x∈ev) (hy:y∈ev) (e:x.i=y.i):x=y:=by
 obtain⟨j,hj⟩:=List.mem_iff_getElem?.1 hx
 obtain⟨k,hk⟩:=List.mem_iff_getElem?.1 hy
 have:=h.con.inj hj hk e
 subst this
 rw[hj] at hk
 exact Option.some.inj hk
theorem VA.place {x:Ev} (h:VA u b fr ev wh) (hm:x∈ev):∃ j:Nat,ev[j]?=some x∧wh[x.i.toNat]?=some (j:Int)∧Live u b x.i x.w:=by
 obtain⟨j,hj⟩:=List.mem_iff_getElem?.1 hm
 exact⟨j,hj,(h.own hj).2,(h.own hj).1⟩
section
variable {u2 f2 wh3:List Int} {b2:List Bool} {ev3:List Ev} {gi gw:Int}
end
end
end Go.Proofs.YtkjaanhddkkodaaGreat

namespace Go.Proofs.YtkjaanhddkkodaaGreat
set_option maxRecDepth 100000
open Go.RowKit
structure Ck where
 tn:Int
 td:Int
 s:List Pt
 x:Int
 l:List Pt
 u:List Int
 b:List Bool
 fr:List Int
 ev:List Ev
 wh:List Int
 d:List Pt
abbrev qaU (l:List Pt):SV:=.row 54 3 l.length (qbu l)
abbrev qao (c:Ck):SV:=.ag [.pv (iV c.tn),.pv (iV c.td),.ls 0 c.s.length,.pv (iV c.x),.ls 1 c.l.length,.ls 2 c.u.length,.ls 3 c.b.length,.ls 4 c.fr.length,.ls 5 c.ev.length,.ls 6 c.wh.length,.ls 7 c.d.length]
abbrev qaq (c:Ck):List (Nat×Nat×SV):=[(0,0,qal c.s),(1,0,qak c.l),(2,0,zrI c.u),(3,0,zrB c.b),(4,0,zrI c.fr),(5,0,qat c.ev),(6,0,zrI c.wh),(7,0,qaU c.d)]
abbrev qcb (k:Nat) (c:Ck):List (Nat×Nat×SV):=[(k,0,.pv (iV c.tn)),(k,1,.pv (iV c.td)),(k,2,.ls 0 c.s.length),(k,3,.pv (iV c.x)),(k,4,.ls 1 c.l.length),(k,5,.ls 2 c.u.length),(k,6,.ls 3 c.b.length),(k,7,.ls 4 c.fr.length),(k,8,.ls 5 c.ev.length),(k,9,.ls 6 c.wh.length),(k,10,.ls 7 c.d.length),(0,0,qal c.s),(1,0,qak c.l),(2,0,zrI c.u),(3,0,zrB c.b),(4,0,zrI c.fr),(5,0,qat c.ev),(6,0,zrI c.wh),(7,0,qaU c.d)]
abbrev qfR (c:Ck):S1:=.ag [.pv (iV c.tn),.pv (iV c.td),.ls 8 c.s.length,.pv (iV c.x),.ls 9 c.l.length,.ls 10 c.u.length,.ls 11 c.b.length,.ls 12 c.fr.length,.ls 13 c.ev.length,.ls 14 c.wh.length,.ls 15 c.d.length]
abbrev qzs (c:Ck):SV:=.ag [.pv (iV c.tn),.pv (iV c.td),.ls 8 c.s.length,.pv (iV c.x),.ls 9 c.l.length,.ls 10 c.u.length,.ls 11 c.b.length,.ls 12 c.fr.length,.ls 13 c.ev.length,.ls 14 c.wh.length,.ls 15 c.d.length]
abbrev qdb (c:Ck):List (Nat×Nat×SV):=[(8,0,qal c.s),(9,0,qak c.l),(10,0,zrI c.u),(11,0,zrB c.b),(12,0,zrI c.fr),(13,0,qat c.ev),(14,0,zrI c.wh),(15,0,qaU c.d)]
abbrev qcD:Value:=.agg #[iV 0,iV 0,.slice none 0 0,iV 0,.slice none 0 0,.slice none 0 0,.slice none 0 0,.slice none 0 0,.slice none 0 0,.slice none 0 0,.slice none 0 0]
end Go.Proofs.YtkjaanhddkkodaaGreat

namespace Go.Proofs.YtkjaanhddkkodaaGreat
set_option maxRecDepth 100000
open Go.RowKit
abbrev qt9 (l:List P2):SV:=.row 48 2 l.length (p2V l)
abbrev qCT (o:Ck):S1:=.ag [.pv (iV o.tn),.pv (iV o.td),.ls 2 o.s.length,.pv (iV o.x),.ls 3 o.l.length,.ls 4 o.u.length,.ls 5 o.b.length,.ls 6 o.fr.length,.ls 7 o.ev.length,.ls 8 o.wh.length,.ls 9 o.d.length]
abbrev qE8 (o:Ck):List (Nat×Nat×SV):=[(2,0,qal o.s),(3,0,qak o.l),(4,0,zrI o.u),(5,0,zrB o.b),(6,0,zrI o.fr),(7,0,qat o.ev),(8,0,zrI o.wh),(9,0,qaU o.d)]
abbrev qcu (n:Int):List Pt:=[Pt.mk 1 0 2,Pt.mk 2 6 (-1),Pt.mk 5 0 n]
theorem qzJ {n:Int} :
 Pure Tryz.prog 13 #[iV n] (qaa n 1):=
 qad (args:=[iV n]) 300 []
  (Ai rfl tI) (by kernel_rfl)
theorem qEu {n:Int} :
 Fn 11 0 [.pv (iV (n))] [] (.ag [.ls 0 3]) 1 [(0,0,qal (qcu n))]:=
 Fz [(0,1)] [.lw]
  (qaH (qaK [(0,1)]) [(0,0,qal (qcu n))]) tI
abbrev qAX (l:List P2) (o:Ck):HpL:=[(1,0,qt9 l),(4,0,.pv (iV 0)),(4,1,.pv (iV 0)),(4,2,.pv (.slice none 0 0)),(4,3,.pv (iV 0)),(4,4,.pv (.slice none 0 0)),(4,5,.pv (.slice none 0 0)),(4,6,.pv (.slice none 0 0)),(4,7,.pv (.slice none 0 0)),(4,8,.pv (.slice none 0 0)),(4,9,.pv (.slice none 0 0)),(4,10,.pv (.slice none 0 0)),(13,0,.pv (iV o.tn)),(13,1,.pv (iV o.td)),(13,2,.ls 5 o.s.length),(13,3,.pv (iV o.x)),(13,4,.ls 11 o.l.length),(13,5,.ls 6 o.u.length),(13,6,.ls 7 o.b.length),(13,7,.ls 8 o.fr.length),(13,8,.ls 10 o.ev.length),(13,9,.ls 9 o.wh.length),(13,10,.ls 12 o.d.length),(5,0,qal o.s),(11,0,qak o.l),(6,0,zrI o.u),(7,0,zrB o.b),(8,0,zrI o.fr),(10,0,qat o.ev),(9,0,zrI o.wh),(12,0,qaU o.d)]
abbrev qDa (k:Nat) (l:List P2):TmL:=[(2,.ls 1 l.length),(6,.pp 4 0),(8,.pp 13 0),(10,.pv (iV (k:Int)))]
theorem qzB {o o1:Ck} {l:List P2} {k:Nat} {n:Int} {g:P2} (hk:l[k]?=some g) (hin:0≤(k:Int)∧(k:Int)<(l.length:Int)) (hlt:decide ((k:Int)<(l.length:Int))=true) (hc:Fn 16 8 [qao o,.pv (qag g.a g.b)] (qaq o) (.tu [qfR o1,.one (.pv (iV n)),.one (.pv (iV 0))]) 8 (qdb o1)) (hs:iV (IntKind.i64.wrap ((k:Int)+1))=iV (((k+1:Nat):Int))) {e:Exit} {tm2:TmL} {hp2:HpL}
 (r:Rl 2 2 12 0 46 14 ([(2,.ls 1 l.length),(6,.pp 4 0),(8,.pp 13 0),(10,.pv (iV ((k+1:Nat):Int)))]) ([(1,0,qt9 l),(4,0,.pv (iV 0)),(4,1,.pv (iV 0)),(4,2,.pv (.slice none 0 0)),(4,3,.pv (iV 0)),(4,4,.pv (.slice none 0 0)),(4,5,.pv (.slice none 0 0)),(4,6,.pv (.slice none 0 0)),(4,7,.pv (.slice none 0 0)),(4,8,.pv (.slice none 0 0)),(4,9,.pv (.slice none 0 0)),(4,10,.pv (.slice none 0 0)),(13,0,.pv (iV o1.tn)),(13,1,.pv (iV o1.td)),(13,2,.ls 5 o1.s.length),(13,3,.pv (iV o1.x)),(13,4,.ls 11 o1.l.length),(13,5,.ls 6 o1.u.length),(13,6,.ls 7 o1.b.length),(13,7,.ls 8 o1.fr.length),(13,8,.ls 10 o1.ev.length),(13,9,.ls 9 o1.wh.length),(13,10,.ls 12 o1.d.length),(5,0,qal o1.s),(11,0,qak o1.l),(6,0,zrI o1.u),(7,0,zrB o1.b),(8,0,zrI o1.fr),(10,0,qat o1.ev),(9,0,zrI o1.wh),(12,0,qaU o1.d)]) e tm2 hp2):Rl 2 2 12 0 46 14 (qDa k l) (qAX l o) e tm2 hp2:=
 RunsL.next [(5,14),(11,15),(6,16),(7,17),(8,18),(10,19),(9,20),(12,21)] 300 [.t true,.md,.r (qag g.a g.b),Cf hc [5,11,6,7,8,10,9,12],.k,Re hs]
  (Ro (Ai hlt (Ai hin (Ai (qD8 hk) (Co hc [5,11,6,7,8,10,9,12] 14 (Ai hs tI)))))) r
theorem qvC {o:Ck} {l:List P2} {k:Nat} {z:Int} {g:P2} (hk:l[k]?=some g) (hin:0≤(k:Int)∧(k:Int)<(l.length:Int)) (hlt:decide ((k:Int)<(l.length:Int))=true) (hc:Fn 16 8 [qao o,.pv (qag g.a g.b)] (qaq o) (.pv (.tuple #[qcD,iV 0,iV z])) 0 []) (he:(z==0)=false) (hs:iV (IntKind.i64.wrap ((k:Int)+1))=iV (((k+1:Nat):Int))) {e:Exit} {tm2:TmL} {hp2:HpL}
 (r:Rl 2 2 12 0 46 14 ([(2,.ls 1 l.length),(6,.pp 4 0),(8,.pp 13 0),(10,.pv (iV ((k+1:Nat):Int)))]) (qAX l o) e tm2 hp2):Rl 2 2 12 0 46 14 (qDa k l) (qAX l o) e tm2 hp2:=
 RunsL.next [] 300 [.t true,.md,.r (qag g.a g.b),Cf hc [5,11,6,7,8,10,9,12],.t false,Re hs]
  (Ro (Ai hlt (Ai hin (Ai (qD8 hk) (Co hc [5,11,6,7,8,10,9,12] 14 (Ai he (Ai hs tI))))))) r
abbrev qEb (o:Ck):HpL:=[(4,0,.pv (iV 0)),(4,1,.pv (iV 0)),(4,2,.pv (.slice none 0 0)),(4,3,.pv (iV 0)),(4,4,.pv (.slice none 0 0)),(4,5,.pv (.slice none 0 0)),(4,6,.pv (.slice none 0 0)),(4,7,.pv (.slice none 0 0)),(4,8,.pv (.slice none 0 0)),(4,9,.pv (.slice none 0 0)),(4,10,.pv (.slice none 0 0)),(13,0,.pv (iV o.tn)),(13,1,.pv (iV o.td)),(13,2,.ls 5 o.s.length),(13,3,.pv (iV o.x)),(13,4,.ls 11 o.l.length),(13,5,.ls 6 o.u.length),(13,6,.ls 7 o.b.length),(13,7,.ls 8 o.fr.length),(13,8,.ls 10 o.ev.length),(13,9,.ls 9 o.wh.length),(13,10,.ls 12 o.d.length),(5,0,qal o.s),(11,0,qak o.l),(6,0,zrI o.u),(7,0,zrB o.b),(8,0,zrI o.fr),(10,0,qat o.ev),(9,0,zrI o.wh),(12,0,qaU o.d)]
theorem qsH {o:Ck} {l:List P2} {k:Nat} (hge:decide ((k:Int)<(l.length:Int))=false):Rl 2 2 12 0 46 14 (qDa k l) (qAX l o) (.exit 0) ([(6,.pp 4 0),(8,.pp 13 0)]) (qEb o):=
 RunsL.stop [] 300 [.t false] (fun h=>by cases h)
  (Ro (Ai hge tI))
theorem qph {c o:Ck} {s:List Pt} {l:List P2} {tn td:Int} (hn:Fn 10 1 [qaN 0 s,.pv (qaa tn td)] [(0,0,qal s)] (.tu [.ag [.pv (iV c.tn),.pv (iV c.td),.ls 1 c.s.length,.pv (iV 0),.ls 7 0,.ls 2 c.u.length,.ls 3 c.b.length,.ls 4 c.fr.length,.ls 6 0,.ls 5 c.wh.length,.ls 8 0],.one (.pv (iV 0))]) 8 [(8,0,qaU []),(7,0,qak []),(1,0,qal c.s),(2,0,zrI c.u),(3,0,zrB c.b),(4,0,zrI c.fr),(5,0,zrI c.wh),(6,0,qat [])]) (r0:Rl 2 2 12 0 46 14 ([(2,.ls 1 l.length),(6,.pp 4 0),(8,.pp 13 0),(10,.pv (iV ((0:Nat):Int)))]) ([(1,0,qt9 l),(4,0,.pv (iV 0)),(4,1,.pv (iV 0)),(4,2,.pv (.slice none 0 0)),(4,3,.pv (iV 0)),(4,4,.pv (.slice none 0 0)),(4,5,.pv (.slice none 0 0)),(4,6,.pv (.slice none 0 0)),(4,7,.pv (.slice none 0 0)),(4,8,.pv (.slice none 0 0)),(4,9,.pv (.slice none 0 0)),(4,10,.pv (.slice none 0 0)),(13,0,.pv (iV (Ck.mk c.tn c.td c.s 0 [] c.u c.b c.fr [] c.wh []).tn)),(13,1,.pv (iV (Ck.mk c.tn c.td c.s 0 [] c.u c.b c.fr [] c.wh []).td)),(13,2,.ls 5 (Ck.mk c.tn c.td c.s 0 [] c.u c.b c.fr [] c.wh []).s.length),(13,3,.pv (iV (Ck.mk c.tn c.td c.s 0 [] c.u c.b c.fr [] c.wh []).x)),(13,4,.ls 11 (Ck.mk c.tn c.td c.s 0 [] c.u c.b c.fr [] c.wh []).l.length),(13,5,.ls 6 (Ck.mk c.tn c.td c.s 0 [] c.u c.b c.fr [] c.wh []).u.length),(13,6,.ls 7 (Ck.mk c.tn c.td c.s 0 [] c.u c.b c.fr [] c.wh []).b.length),(13,7,.ls 8 (Ck.mk c.tn c.td c.s 0 [] c.u c.b c.fr [] c.wh []).fr.length),(13,8,.ls 10 (Ck.mk c.tn c.td c.s 0 [] c.u c.b c.fr [] c.wh []).ev.length),(13,9,.ls 9 (Ck.mk c.tn c.td c.s 0 [] c.u c.b c.fr [] c.wh []).wh.length),(13,10,.ls 12 (Ck.mk c.tn c.td c.s 0 [] c.u c.b c.fr [] c.wh []).d.length),(5,0,qal (Ck.mk c.tn c.td c.s 0 [] c.u c.b c.fr [] c.wh []).s),(11,0,qak (Ck.mk c.tn c.td c.s 0 [] c.u c.b c.fr [] c.wh []).l),(6,0,zrI (Ck.mk c.tn c.td c.s 0 [] c.u c.b c.fr [] c.wh []).u),(7,0,zrB (Ck.mk c.tn c.td c.s 0 [] c.u c.b c.fr [] c.wh []).b),(8,0,zrI (Ck.mk c.tn c.td c.s 0 [] c.u c.b c.fr [] c.wh []).fr),(10,0,qat (Ck.mk c.tn c.td c.s 0 [] c.u c.b c.fr [] c.wh []).ev),(9,0,zrI (Ck.mk c.tn c.td c.s 0 [] c.u c.b c.fr [] c.wh []).wh),(12,0,qaU (Ck.mk c.tn c.td c.s 0 [] c.u c.b c.fr [] c.wh []).d)]) (.exit 0) ([(6,.pp 4 0),(8,.pp 13 0)]) (qEb o)) (hck:Fn 31 8 [qao o] (qaq o) (.pv (iV (0))) 0 []) :
 Fn 12 2 [qaN 0 s,.pv (qaa tn td),.ls 1 l.length] [(0,0,qal s),(1,0,qt9 l)] (.tu [qCT o,.one (.pv (.bool true))]) 8 [(2,0,qal o.s),(3,0,qak o.l),(4,0,zrI o.u),(5,0,zrB o.b),(6,0,zrI o.fr),(7,0,qat o.ev),(8,0,zrI o.wh),(9,0,qaU o.d)]:=
 Fz [(2,5),(3,11),(4,6),(5,7),(6,8),(7,10),(8,9),(9,12)] [Cf hn [0],.k,Lf r0,Cf hck [5,11,6,7,8,10,9,12],.k]
  (qaH (qaK [(2,5),(3,11),(4,6),(5,7),(6,8),(7,10),(8,9),(9,12)]) [(2,0,qal o.s),(3,0,qak o.l),(4,0,zrI o.u),(5,0,zrB o.b),(6,0,zrI o.fr),(7,0,qat o.ev),(8,0,zrI o.wh),(9,0,qaU o.d)]) (Co hn [0] 5 (Lo r0 [] (Co hck [5,11,6,7,8,10,9,12] 14 tI)))
theorem qof {c o o1:Ck} {y z9:Ev} {p:Pt} (hg0:Fn 11 0 [.pv (iV (0))] [] (.ag [.ls 0 3]) 1 [(0,0,qal (qcu 0))]) (hat1:Pure Tryz.prog 13 #[iV 1] (qaa 1 1)) (hce:Fn 12 2 [qaN 0 (qcu 0),.pv (qaa 1 1),.ls 1 3] [(0,0,qal (qcu 0)),(1,0,qt9 [P2.mk 1 2,P2.mk 5 2,P2.mk 5 1])] (.tu [qCT c,.one (.pv (.bool true))]) 8 [(2,0,qal c.s),(3,0,qak c.l),(4,0,zrI c.u),(5,0,zrB c.b),(6,0,zrI c.fr),(7,0,qat c.ev),(8,0,zrI c.wh),(9,0,qaU c.d)]) (hat4:Pure Tryz.prog 13 #[iV 4] (qaa 4 1)) (hf1:Fn 19 8 [qao c,.pv (qaa 4 1)] (qaq c) (.tu [qfR o,.one (.pv (qab y)),.one (.pv (qag p.a p.b)),.one (.pv (iV 0))]) 8 (qdb o)) (hf2:Fn 19 8 [qao o,.pv (qaa 4 1)] (qaq o) (.pv (.tuple #[qcD,.agg #[iV 0,iV 0,iV 0,iV 0,iV 0],qag 0 0,iV 6])) 0 []) (hat6:Pure Tryz.prog 13 #[iV 6] (qaa 6 1)) (hmv:Fn 20 8 [qao o,.pv (qaa 6 1)] (qaq o) (.pv (.tuple #[qcD,iV 36])) 0 []) (hg1:Fn 11 0 [.pv (iV (1))] [] (.ag [.ls 0 3]) 1 [(0,0,qal (qcu 1))]) (hal1:Fn 21 9 [qao o,qaN 8 (qcu 1)] [(0,0,qal o.s),(1,0,qak o.l),(2,0,zrI o.u),(3,0,zrB o.b),(4,0,zrI o.fr),(5,0,qat o.ev),(6,0,zrI o.wh),(7,0,qaU o.d),(8,0,qal (qcu 1))] (.tu [.ag [.pv (iV o.tn),.pv (iV o.td),.ls 9 3,.pv (iV o.x),.ls 10 o.l.length,.ls 11 o1.u.length,.ls 12 o1.b.length,.ls 13 o1.fr.length,.ls 14 o1.ev.length,.ls 15 o1.wh.length,.ls 16 o1.d.length],.one (.pv (iV 0))]) 8 [(9,0,qal (qcu 1)),(10,0,qak o.l),(11,0,zrI o1.u),(12,0,zrB o1.b),(13,0,zrI o1.fr),(14,0,qat o1.ev),(15,0,zrI o1.wh),(16,0,qaU o1.d)]) (hnx:Fn 18 8 [qao ({ o1 with tn:=o.tn,td:=o.td,s:=qcu 1,x:=o.x,l:=o.l }:Ck)] (qaq ({ o1 with tn:=o.tn,td:=o.td,s:=qcu 1,x:=o.x,l:=o.l }:Ck)) (.pv (.tuple #[qab z9,iV 0])) 0 []) (t1:((c.d.length:Int)==2)=true) (hat2:Pure Tryz.prog 13 #[iV 2] (qaa 2 1)) (t2:(y.n==2&&(y.d==1&&true))=true) (t3:(p.a==1&&(p.b==2&&true))=true) (t4:(o.tn==2&&(o.td==1&&true))=true) (hat3:Pure Tryz.prog 13 #[iV 3] (qaa 3 1)) (t5:(z9.n==3&&(z9.d==1&&true))=true) (t6:(z9.k==1)=true) :
 Fn 24 0 [] [] (.pv (.bool true)) 0 []:=
 qcM 900 [] [Cf hg0 [],Rf hat1,.lw,Cf hce [0,1],.md,Rf hat4,Cf hf1 [2,3,4,5,6,7,8,9],Rf hat4,Cf hf2 [11,12,13,14,15,16,17,18],Rf hat6,Cf hmv [11,12,13,14,15,16,17,18],.md,Cf hg1 [],Cf hal1 [11,12,13,14,15,16,17,18,26],Cf hnx [27,28,29,30,31,32,33,34],.t true,.k,Rf hat2,.t true,.t true,Rf hat2,.t true,.k,.k,.k,.k,Rf hat3,.t true,.t true]
  tI (Co hg0 [] 0 (Ai hat1 (Co hce [0,1] 2 (Ai hat4 (Co hf1 [2,3,4,5,6,7,8,9] 11 (Ai hat4 (Co hf2 [11,12,13,14,15,16,17,18] 22 (Ai hat6 (Co hmv [11,12,13,14,15,16,17,18] 25 (Co hg1 [] 26 (Co hal1 [11,12,13,14,15,16,17,18,26] 27 (Co hnx [27,28,29,30,31,32,33,34] 36 (Ai t1 (Ai hat2 (Ai t2 (Ai t3 (Ai hat2 (Ai t4 (Ai hat3 (Ai t5 (Ai t6 tI))))))))))))))))))))) (by kernel_rfl)
end Go.Proofs.YtkjaanhddkkodaaGreat

namespace Go.Proofs.YtkjaanhddkkodaaGreat
set_option maxRecDepth 100000
open Go.RowKit
theorem qhd (a b:Int):(a==a&&(b==b&&true))=true:=by simp
theorem qmI {c:Ck} {tn td:Int} (hft:Fn 37 8 [qao c] (qaq c) (.pv (.bool false)) 0 []) (hal:Pure Tryz.prog 24 #[] (.bool true)) :
 Fn 8 8 [qao c,.pv (qaa tn td)] (qaq c) (.pv (.bool true)) 0 []:=
 Fz [] [Cf hft [0,1,2,3,4,5,6,7],.k,Rf hal]
  tI (Co hft [0,1,2,3,4,5,6,7] 10 (Ai hal tI))
theorem qnR {c:Ck} {tn td e:Int} (hft:Fn 37 8 [qao c] (qaq c) (.pv (.bool true)) 0 []) (hu:Fn 38 8 [qao c,.pv (qaa tn td)] (qaq c) (.pv (iV (e))) 0 []) (he:(e !=0)=true) (hal:Pure Tryz.prog 24 #[] (.bool true)) :
 Fn 8 8 [qao c,.pv (qaa tn td)] (qaq c) (.pv (.bool true)) 0 []:=
 Fz [] [Cf hft [0,1,2,3,4,5,6,7],.k,Cf hu [0,1,2,3,4,5,6,7],.t true,Rf hal]
  tI (Co hft [0,1,2,3,4,5,6,7] 10 (Co hu [0,1,2,3,4,5,6,7] 10 (Ai he (Ai hal tI))))
theorem qBZ {c:Ck} {tn td v1:Int} (hft:Fn 37 8 [qao c] (qaq c) (.pv (.bool true)) 0 []) (hu:Fn 38 8 [qao c,.pv (qaa tn td)] (qaq c) (.pv (iV (0))) 0 []) (hle:decide (0≤(c.l.length:Int))=true) (hf:Fn 19 8 [qao c,.pv (qaa tn td)] (qaq c) (.pv (.tuple #[qcD,.agg #[iV 0,iV 0,iV 0,iV 0,iV 0],qag 0 0,iV 6])) 0 []) (hm:Fn 20 8 [qao c,.pv (qaa tn td)] (qaq c) (.tu [qfR ({ c with tn:=tn,td:=td }:Ck),.one (.pv (iV 0))]) 8 (qdb ({ c with tn:=tn,td:=td }:Ck))) (hsub:iV (IntKind.i64.wrap ((c.l.length:Int)-0))=iV (v1)) (t1:((c.l.length:Int)==v1)=true) (hal:Pure Tryz.prog 24 #[] (.bool true)) :
 Fn 8 8 [qao c,.pv (qaa tn td)] (qaq c) (.pv (.bool true)) 0 []:=
 qcM 500 [] [Cf hft [0,1,2,3,4,5,6,7],.k,Cf hu [0,1,2,3,4,5,6,7],.k,.t true,Cf hf [0,1,2,3,4,5,6,7],.k,Cf hm [0,1,2,3,4,5,6,7],.k,.t true,Re hsub,.t true,Rf hal]
  tI (Co hft [0,1,2,3,4,5,6,7] 10 (Co hu [0,1,2,3,4,5,6,7] 10 (Ai hle (Co hf [0,1,2,3,4,5,6,7] 11 (Co hm [0,1,2,3,4,5,6,7] 14 (Ai (qhd tn td) (Ai hsub (Ai t1 (Ai hal tI))))))))) (by kernel_rfl)
abbrev qEa (o1:Ck) (td:Int) (tn:Int):HpL:=[(9,0,.pv (iV tn)),(9,1,.pv (iV td)),(10,0,.pv (iV o1.tn)),(10,1,.pv (iV o1.td)),(10,2,.ls 11 o1.s.length),(10,3,.pv (iV o1.x)),(10,4,.ls 12 o1.l.length),(10,5,.ls 13 o1.u.length),(10,6,.ls 14 o1.b.length),(10,7,.ls 15 o1.fr.length),(10,8,.ls 16 o1.ev.length),(10,9,.ls 17 o1.wh.length),(10,10,.ls 18 o1.d.length),(11,0,qal o1.s),(12,0,qak o1.l),(13,0,zrI o1.u),(14,0,zrB o1.b),(15,0,zrI o1.fr),(16,0,qat o1.ev),(17,0,zrI o1.wh),(18,0,qaU o1.d)]
theorem qDn {c o1:Ck} {tn td v2 v3:Int} {y:Ev} {p:Pt} (hft:Fn 37 8 [qao c] (qaq c) (.pv (.bool true)) 0 []) (hu:Fn 38 8 [qao c,.pv (qaa tn td)] (qaq c) (.pv (iV (0))) 0 []) (hle:decide (0≤(c.l.length:Int))=true) (hf:Fn 19 8 [qao c,.pv (qaa tn td)] (qaq c) (.tu [qfR o1,.one (.pv (qab y)),.one (.pv (qag p.a p.b)),.one (.pv (iV 0))]) 8 (qdb o1)) (hck:Fn 31 8 [qao o1] (qaq o1) (.pv (iV (0))) 0 []) (hc1:Pure Tryz.prog 40 #[qaa y.n y.d,qaa c.tn c.td] (iV (v2))) (t2:decide (v2<0)=false) (hc2:Pure Tryz.prog 40 #[qaa y.n y.d,qaa tn td] (iV (v3))) (t3:decide (v3>0)=false) (r0:Rl 8 8 8 0 95 22 ([(2,.pp 8 0),(3,.pp 9 0),(5,.pp 10 0),(6,.pv (iV ((1:Nat):Int)))]) ((qcb 8 c++(qEa o1 td tn))) (.ret) ([(4,.pv (.bool true))]) ([])) :
 Fn 8 8 [qao c,.pv (qaa tn td)] (qaq c) (.pv (.bool true)) 0 []:=
 qcM 600 [] [Cf hft [0,1,2,3,4,5,6,7],.k,Cf hu [0,1,2,3,4,5,6,7],.k,.t true,Cf hf [0,1,2,3,4,5,6,7],.k,.k,Cf hck [11,12,13,14,15,16,17,18],.k,Rf hc1,.t false,Rf hc2,.t false,.k,Lf r0]
  tI (Co hft [0,1,2,3,4,5,6,7] 10 (Co hu [0,1,2,3,4,5,6,7] 10 (Ai hle (Co hf [0,1,2,3,4,5,6,7] 11 (Co hck [11,12,13,14,15,16,17,18] 22 (Ai hc1 (Ai t2 (Ai hc2 (Ai t3 (Lo r0 [] tI)))))))))) (by kernel_rfl)
abbrev qEI (o:Ck) (td:Int) (tn:Int):HpL:=[(9,0,.pv (iV tn)),(9,1,.pv (iV td)),(10,0,.pv (iV o.tn)),(10,1,.pv (iV o.td)),(10,2,.ls 11 o.s.length),(10,3,.pv (iV o.x)),(10,4,.ls 12 o.l.length),(10,5,.ls 13 o.u.length),(10,6,.ls 14 o.b.length),(10,7,.ls 15 o.fr.length),(10,8,.ls 16 o.ev.length),(10,9,.ls 17 o.wh.length),(10,10,.ls 18 o.d.length),(11,0,qal o.s),(12,0,qak o.l),(13,0,zrI o.u),(14,0,zrB o.b),(15,0,zrI o.fr),(16,0,qat o.ev),(17,0,zrI o.wh),(18,0,qaU o.d)]
theorem qjY {c o:Ck} {k:Nat} {tn td v1:Int} (hle:decide ((k:Int)≤(c.l.length:Int))=true) (hf:Fn 19 8 [qao o,.pv (qaa tn td)] (qaq o) (.pv (.tuple #[qcD,.agg #[iV 0,iV 0,iV 0,iV 0,iV 0],qag 0 0,iV 6])) 0 []) (hm:Fn 20 8 [qao o,.pv (qaa tn td)] (qaq o) (.tu [qfR ({ o with tn:=tn,td:=td }:Ck),.one (.pv (iV 0))]) 8 (qdb ({ o with tn:=tn,td:=td }:Ck))) (hsub:iV (IntKind.i64.wrap ((c.l.length:Int)-(k:Int)))=iV (v1)) (t1:((o.l.length:Int)==v1)=true) (hal:Pure Tryz.prog 24 #[] (.bool true)):Rl 8 8 8 0 95 22 ([(2,.pp 8 0),(3,.pp 9 0),(5,.pp 10 0),(6,.pv (iV (k:Int)))]) ((qcb 8 c++(qEI o td tn))) (.ret) ([(4,.pv (.bool true))]) ([]):=
 RunsL.stop [] 400 [.t true,Cf hf [11,12,13,14,15,16,17,18],.k,Cf hm [11,12,13,14,15,16,17,18],.k,.t true,Re hsub,.t true,Rf hal] (fun h=>by cases h)
  (Ro (Ai hle (Co hf [11,12,13,14,15,16,17,18] 22 (Co hm [11,12,13,14,15,16,17,18] 25 (Ai (qhd tn td) (Ai hsub (Ai t1 (Ai hal tI))))))))
theorem qre {c o o1:Ck} {k:Nat} {tn td v2 v3:Int} {y:Ev} {p:Pt} (hle:decide ((k:Int)≤(c.l.length:Int))=true) (hf:Fn 19 8 [qao o,.pv (qaa tn td)] (qaq o) (.tu [qfR o1,.one (.pv (qab y)),.one (.pv (qag p.a p.b)),.one (.pv (iV 0))]) 8 (qdb o1)) (hck:Fn 31 8 [qao o1] (qaq o1) (.pv (iV (0))) 0 []) (hc1:Pure Tryz.prog 40 #[qaa y.n y.d,qaa o.tn o.td] (iV (v2))) (t2:decide (v2<0)=false) (hc2:Pure Tryz.prog 40 #[qaa y.n y.d,qaa tn td] (iV (v3))) (t3:decide (v3>0)=false) (hs:iV (IntKind.i64.wrap ((k:Int)+1))=iV (((k+1:Nat):Int))) {e:Exit} {tm2:TmL} {hp2:HpL}
 (r:Rl 8 8 8 0 95 22 ([(2,.pp 8 0),(3,.pp 9 0),(5,.pp 10 0),(6,.pv (iV ((k+1:Nat):Int)))]) ((qcb 8 c++(qEa o1 td tn))) e tm2 hp2):Rl 8 8 8 0 95 22 ([(2,.pp 8 0),(3,.pp 9 0),(5,.pp 10 0),(6,.pv (iV (k:Int)))]) ((qcb 8 c++(qEI o td tn))) e tm2 hp2:=
 RunsL.next [(11,22),(12,23),(13,24),(14,25),(15,26),(16,27),(17,28),(18,29)] 400 [.t true,Cf hf [11,12,13,14,15,16,17,18],.k,.k,Cf hck [22,23,24,25,26,27,28,29],.k,Rf hc1,.t false,Rf hc2,.t false,Re hs]
  (Ro (Ai hle (Co hf [11,12,13,14,15,16,17,18] 22 (Co hck [22,23,24,25,26,27,28,29] 33 (Ai hc1 (Ai t2 (Ai hc2 (Ai t3 (Ai hs tI))))))))) r
end Go.Proofs.YtkjaanhddkkodaaGreat

namespace Go.Proofs.YtkjaanhddkkodaaGreat
set_option maxRecDepth 100000
open Go.RowKit
theorem wn9 {s:List Pt} {q g:Pt} {i j:Nat} {n a b tn td z:Int} {w:Bool} (hg:s[i]?=some g) (hq:s[j]?=some q) (hi:0≤(i:Int)∧(i:Int)<(s.length:Int)) (hj:0≤(j:Int)∧(j:Int)<(s.length:Int)) (ha:Fn 72 1 [qaN 0 s,.pv (iV (b))] [(0,0,qal s)] (.pv (iV (i:Int))) 0 []) (hb:Fn 72 1 [qaN 0 s,.pv (iV (a))] [(0,0,qal s)] (.pv (iV (j:Int))) 0 []) (hl:Pure Tryz.prog 83 #[ptV g,ptV q,qaa tn td] (.tuple #[qaa n z,.bool w])) :
 Fn 39 1 [qaN 0 s,.pv (qag a b),.pv (qaa tn td)] [(0,0,qal s)] (.pv (.tuple #[qaa n z,.bool w])) 0 []:=
 Fz [] [Cf ha [0],.r (ptV g),Cf hb [0],.r (ptV q),Rf hl]
  tI (Co ha [0] 5 (Ai hi (Ai (qaS hg) (Co hb [0] 5 (Ai hj (Ai (qaS hq) (Ai hl tI)))))))
theorem qst {c:Ck} {tn td:Int} (hc:Fn 31 8 [qao c] (qaq c) (.pv (iV (8))) 0 []) :
 Fn 38 8 [qao c,.pv (qaa tn td)] (qaq c) (.pv (iV (8))) 0 []:=
 Fz [] [Cf hc [0,1,2,3,4,5,6,7],.k]
  tI (Co hc [0,1,2,3,4,5,6,7] 10 tI)
theorem qpG {c:Ck} {tn td:Int} (hc:Fn 31 8 [qao c] (qaq c) (.pv (iV (0))) 0 []) (ht:Pure Tryz.prog 75 #[qaa tn td] (iV (8))) :
 Fn 38 8 [qao c,.pv (qaa tn td)] (qaq c) (.pv (iV (8))) 0 []:=
 Fz [] [Cf hc [0,1,2,3,4,5,6,7],.k,Rf ht,.k]
  tI (Co hc [0,1,2,3,4,5,6,7] 10 (Ai ht tI))
theorem qo9 {c:Ck} {n tn td:Int} (hc:Fn 31 8 [qao c] (qaq c) (.pv (iV (0))) 0 []) (ht:Pure Tryz.prog 75 #[qaa tn td] (iV (0))) (hm:Pure Tryz.prog 40 #[qaa tn td,qaa c.tn c.td] (iV (n))) (hn:decide (n<0)=true) :
 Fn 38 8 [qao c,.pv (qaa tn td)] (qaq c) (.pv (iV (44))) 0 []:=
 Fz [] [Cf hc [0,1,2,3,4,5,6,7],.k,Rf ht,.k,Rf hm,.t true]
  tI (Co hc [0,1,2,3,4,5,6,7] 10 (Ai ht (Ai hm (Ai hn tI))))
theorem qxZ {c:Ck} {n tn td:Int} (hc:Fn 31 8 [qao c] (qaq c) (.pv (iV (0))) 0 []) (ht:Pure Tryz.prog 75 #[qaa tn td] (iV (0))) (hm:Pure Tryz.prog 40 #[qaa tn td,qaa c.tn c.td] (iV (n))) (hn:decide (n<0)=false) :
 Fn 38 8 [qao c,.pv (qaa tn td)] (qaq c) (.pv (iV (0))) 0 []:=
 Fz [] [Cf hc [0,1,2,3,4,5,6,7],.k,Rf ht,.k,Rf hm,.t false]
  tI (Co hc [0,1,2,3,4,5,6,7] 10 (Ai ht (Ai hm (Ai hn tI))))
theorem qBm {c:Ck} (g1:decide ((c.l.length:Int)>40)=true) :
 Fn 26 8 [qao c] (qaq c) (.pv (.bool true)) 0 []:=
 Fz [] [.t true]
  tI (Ai g1 tI)
theorem qC5 {c:Ck} (g1:decide ((c.l.length:Int)>40)=false) (g2:decide ((c.d.length:Int)>40)=true) :
 Fn 26 8 [qao c] (qaq c) (.pv (.bool true)) 0 []:=
 Fz [] [.t false,.t true]
  tI (Ai g1 (Ai g2 tI))
theorem qCS {c:Ck} (g1:decide ((c.l.length:Int)>40)=false) (g2:decide ((c.d.length:Int)>40)=false) (hf:Fn 25 1 [qaN 0 c.s] [(0,0,qal c.s)] (.pv (.bool true)) 0 []) :
 Fn 26 8 [qao c] (qaq c) (.pv (.bool true)) 0 []:=
 Fz [] [.t false,.t false,Cf hf [0]]
  tI (Ai g1 (Ai g2 (Co hf [0] 9 tI)))
theorem qCs {c:Ck} (g1:decide ((c.l.length:Int)>40)=false) (g2:decide ((c.d.length:Int)>40)=false) (hf:Fn 25 1 [qaN 0 c.s] [(0,0,qal c.s)] (.pv (.bool false)) 0 []) (hg:Fn 68 5 [agA c.u c.b c.fr c.ev c.wh] [(0,0,zrI c.u),(1,0,zrB c.b),(2,0,zrI c.fr),(3,0,qat c.ev),(4,0,zrI c.wh)] (.pv (.bool true)) 0 []) :
 Fn 26 8 [qao c] (qaq c) (.pv (.bool true)) 0 []:=
 Fz [] [.t false,.t false,Cf hf [0],Cf hg [2,3,4,5,6]]
  tI (Ai g1 (Ai g2 (Co hf [0] 9 (Co hg [2,3,4,5,6] 9 tI))))
theorem qzm {c:Ck} (g1:decide ((c.l.length:Int)>40)=false) (g2:decide ((c.d.length:Int)>40)=false) (hf:Fn 25 1 [qaN 0 c.s] [(0,0,qal c.s)] (.pv (.bool false)) 0 []) (hg:Fn 68 5 [agA c.u c.b c.fr c.ev c.wh] [(0,0,zrI c.u),(1,0,zrB c.b),(2,0,zrI c.fr),(3,0,qat c.ev),(4,0,zrI c.wh)] (.pv (.bool false)) 0 []) :
 Fn 26 8 [qao c] (qaq c) (.pv (.bool false)) 0 []:=
 Fz [] [.t false,.t false,Cf hf [0],Cf hg [2,3,4,5,6]]
  tI (Ai g1 (Ai g2 (Co hf [0] 9 (Co hg [2,3,4,5,6] 9 tI))))
end Go.Proofs.YtkjaanhddkkodaaGreat
