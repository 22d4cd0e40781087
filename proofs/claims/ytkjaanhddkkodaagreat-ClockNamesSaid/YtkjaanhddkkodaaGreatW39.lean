/-
  Joined: Yp, Vf, Vl, Vm, Ys, Yz, Ve, Vo, Lb, Lc, Lm, Bj. Conditions: none.
-/
import Derived.Test.YtkjaanhddkkodaaGreatYo
import Derived.Test.YtkjaanhddkkodaaGreatW18
import Derived.Test.YtkjaanhddkkodaaGreatZj
import Derived.Test.YtkjaanhddkkodaaGreatW27
import Derived.Test.YtkjaanhddkkodaaGreatW26
import Derived.Test.YtkjaanhddkkodaaGreatSxP
import Derived.Test.YtkjaanhddkkodaaGreatW23
import Derived.Test.YtkjaanhddkkodaaGreatW24
namespace Go.Proofs.YtkjaanhddkkodaaGreat
set_option maxRecDepth 100000
open Go.RowKit
structure P2 where
 a:Int
 b:Int
deriving DecidableEq
def p2V:List P2→List Value
 | []=>[]
 | m::r=>iV m.a::iV m.b::p2V r
abbrev qFH (l:List P2):SV:=.row 23 2 l.length (p2V l)
abbrev qFI (l:List P2):SV:=.row 52 2 l.length (p2V l)
theorem qmd:∀ {l:List P2} {k:Nat} {m:P2},l[k]?=some m→(p2V l)[k*2]?=some (iV m.a)∧(p2V l)[k*2+1]?=some (iV m.b)
 | [],k,p,h=>by simp at h
 | q::r,0,p,h=>by simp at h;subst h;exact⟨rfl,rfl⟩
 | q::r,k+1,p,h=>by
  have:=qmd (l:=r) (k:=k) (m:=p) (by simpa using h)
  rw[show (k+1)*2=k*2+1+1 by omega]
  exact this
theorem qEL {l:List P2} {k:Nat} {m:P2} (h:l[k]?=some m):qcP (p2V l) (0*2+k*2) [iV m.a,iV m.b]:=by
 obtain⟨h1,h2⟩:=qmd h
 intro j v hj
 rw[show 0*2+k*2+j=k*2+j by omega]
 match j,hj with
 | 0,hj=>cases hj;exact h1
 | 1,hj=>cases hj;exact h2
 | j+2,hj=>simp at hj
end Go.Proofs.YtkjaanhddkkodaaGreat

namespace Go.Proofs.YtkjaanhddkkodaaGreat
set_option maxRecDepth 100000
open Go.RowKit
theorem qDv (a c d e g:Nat):SV.ag [.ls 7 a,.ls 8 c,.ls 9 d,.ls 11 (0+e),.ls 13 (0+g)]=SV.ag [.ls 7 a,.ls 8 c,.ls 9 d,.ls 11 e,.ls 13 g]:=by rw[Nat.zero_add,Nat.zero_add]
theorem qi2 (e:TypeId) (s n:Nat) (xs:List Value):some (SV.row e s (0+n) ([]++xs))=some (SV.row e s n xs):=by rw[Nat.zero_add,List.nil_append]
abbrev qzD (b:List Bool) (ev:List Ev) (fr:List Int) (u:List Int) (wh:List Int):HpL:=[(0,0,zrI u),(1,0,zrB b),(2,0,zrI fr),(3,0,qao ev),(4,0,zrI wh)]
theorem qFg {u fr wh:List Int} {b:List Bool} {ev:List Ev} (h6:Fn 101 3 [.ag [.ls 0 u.length,.ls 1 b.length,.ls 2 fr.length]] [(0,0,zrI u),(1,0,zrB b),(2,0,zrI fr)] (.ag [.ls 3 u.length,.ls 4 b.length,.ls 5 fr.length]) 3 [(3,0,zrI u),(4,0,zrB b),(5,0,zrI fr)]) (ne:0+ev.length≤1000000) (nw:0+wh.length≤1000000) :
 Fn 54 5 [agA u b fr ev wh] (qzD b ev fr u wh) (.ag [.ls 5 u.length,.ls 6 b.length,.ls 7 fr.length,.ls 8 ev.length,.ls 9 wh.length]) 5 [(5,0,zrI u),(6,0,zrB b),(7,0,zrI fr),(8,0,qao ev),(9,0,zrI wh)]:=
 Fx [(5,7),(6,8),(7,9),(8,11),(9,13)] [.md,Cf h6 [0,1,2]]
  (qDv u.length b.length fr.length ev.length wh.length) (Ai (Er (zrI u)) (Ai (Er (zrB b)) (Ai (Er (zrI fr)) (Ai (qi2 62 5 ev.length (qaO ev)) (Ai (qi2 3 1 wh.length (ziV wh)) tI))))) (Co h6 [0,1,2] 7 (Ai ne (Ai nw tI)))
theorem qrd {u fr wh:List Int} {b:List Bool} {ev:List Ev} {hi hw:Int} (hc:Fn 77 5 [agA u b fr ev wh] (qzD b ev fr u wh) (.pv (iV (0))) 0 []) (hl:Fn 132 3 [.ag [.ls 0 u.length,.ls 1 b.length,.ls 2 fr.length],.pv (qaL hi hw)] [(0,0,zrI u),(1,0,zrB b),(2,0,zrI fr)] (.pv (.bool false)) 0 []) :
 Fn 78 5 [agA u b fr ev wh,.pv (qaL hi hw)] (qzD b ev fr u wh) (.pv (.tuple #[.agg #[iV 0,iV 0,iV 0,iV 0,iV 0],iV 6])) 0 []:=
 Fz [] [Cf hc [0,1,2,3,4],.k,Cf hl [0,1,2],.k]
  tI (Co hc [0,1,2,3,4] 8 (Co hl [0,1,2] 8 tI))
theorem qxs {u fr wh:List Int} {b:List Bool} {ev:List Ev} {x:Ev} {hi hw:Int} {j:Nat} (hc:Fn 77 5 [agA u b fr ev wh] (qzD b ev fr u wh) (.pv (iV (0))) 0 []) (hl:Fn 132 3 [.ag [.ls 0 u.length,.ls 1 b.length,.ls 2 fr.length],.pv (qaL hi hw)] [(0,0,zrI u),(1,0,zrB b),(2,0,zrI fr)] (.pv (.bool true)) 0 []) (hiw:0≤hi∧hi<(wh.length:Int)) (hw_:wh[hi.toNat]?=some (j:Int)) (hij:0≤(j:Int)∧(j:Int)<(ev.length:Int)) (hx:ev[j]?=some x) :
 Fn 78 5 [agA u b fr ev wh,.pv (qaL hi hw)] (qzD b ev fr u wh) (.pv (.tuple #[qab x,iV 0])) 0 []:=
 Fz [] [Cf hc [0,1,2,3,4],.k,Cf hl [0,1,2],.k,.md,.r (iV (j:Int)),.r (qab x)]
  tI (Co hc [0,1,2,3,4] 8 (Co hl [0,1,2] 8 (Ai hiw (Ai (qeU hw_) (Ai hij (Ai (qbc hx) tI))))))
abbrev qBf (b:List Bool) (ev:List Ev) (fr:List Int) (u:List Int) (wh:List Int):HpL:=[(10,0,.ls 0 u.length),(10,1,.ls 1 b.length),(10,2,.ls 2 fr.length),(10,3,.ls 3 ev.length),(10,4,.ls 4 wh.length),(11,0,.ls 5 u.length),(11,1,.ls 6 b.length),(11,2,.ls 7 fr.length),(11,3,.ls 8 ev.length),(11,4,.ls 9 wh.length),(3,0,qao ev),(8,0,qao ev)]
theorem qrD {u fr wh:List Int} {b:List Bool} {ev:List Ev} {m:Ev} {k:Nat} (hk:ev[k]?=some m) (hin:0≤(k:Int)∧(k:Int)<(ev.length:Int)) (hlt:decide ((k:Int)<(ev.length:Int))=true) (hq:(!((m.n==m.n&&(m.d==m.d&&true))&&(m.k==m.k&&((m.i==m.i&&(m.w==m.w&&true))&&true))))=false) (hs:iV (IntKind.i64.wrap ((k:Int)+1))=iV (((k+1:Nat):Int))) {e:Exit} {tm2:TmL} {hp2:HpL}
 (r:Rl 10 10 67 0 47 12 ([(2,.pp 10 0),(3,.pp 11 0),(5,.pv (iV ((k+1:Nat):Int)))]) (qBf b ev fr u wh) e tm2 hp2):Rl 10 10 67 0 47 12 ([(2,.pp 10 0),(3,.pp 11 0),(5,.pv (iV (k:Int)))]) (qBf b ev fr u wh) e tm2 hp2:=
 RunsL.next [] 300 [.t true,.r (qab m),.r (qab m),.t false,Re hs]
  (Ro (Ai hlt (Ai hin (Ai (qbc hk) (Ai hin (Ai (qbc hk) (Ai hq (Ai hs tI)))))))) r
theorem qtv {u fr wh:List Int} {b:List Bool} {ev:List Ev} {k:Nat} (hge:decide ((k:Int)<(ev.length:Int))=false):Rl 10 10 67 0 47 12 ([(2,.pp 10 0),(3,.pp 11 0),(5,.pv (iV (k:Int)))]) (qBf b ev fr u wh) (.exit 0) ([]) ([]):=
 RunsL.stop [] 300 [.t false] (fun h=>by cases h)
  (Ro (Ai hge tI))
theorem qpn {u fr wh:List Int} {b:List Bool} {ev:List Ev} {hi:Int} (h6:Fn 119 6 [.ag [.ls 0 u.length,.ls 1 b.length,.ls 2 fr.length],.ag [.ls 3 u.length,.ls 4 b.length,.ls 5 fr.length]] [(0,0,zrI u),(1,0,zrB b),(2,0,zrI fr),(3,0,zrI u),(4,0,zrB b),(5,0,zrI fr)] (.pv (.bool true)) 0 []) (hi:Fn 120 2 [.ls 0 wh.length,.ls 1 wh.length] [(0,0,zrI wh),(1,0,zrI wh)] (.pv (.bool true)) 0 []) (hle:(!((ev.length:Int)==(ev.length:Int)))=false) (r0:Rl 10 10 67 0 47 12 ([(2,.pp 10 0),(3,.pp 11 0),(5,.pv (iV ((0:Nat):Int)))]) (qBf b ev fr u wh) (.exit 0) ([]) ([])) :
 Fn 67 10 [agA u b fr ev wh,.ag [.ls 5 u.length,.ls 6 b.length,.ls 7 fr.length,.ls 8 ev.length,.ls 9 wh.length]] [(0,0,zrI u),(1,0,zrB b),(2,0,zrI fr),(3,0,qao ev),(4,0,zrI wh),(5,0,zrI u),(6,0,zrB b),(7,0,zrI fr),(8,0,qao ev),(9,0,zrI wh)] (.pv (.bool true)) 0 []:=
 Fz [] [Cf h6 [0,1,2,5,6,7],.k,Cf hi [4,9],.k,.t false,Lf r0]
  tI (Co h6 [0,1,2,5,6,7] 12 (Co hi [4,9] 12 (Ai hle (Lo r0 [] tI))))
end Go.Proofs.YtkjaanhddkkodaaGreat

namespace Go.Proofs.YtkjaanhddkkodaaGreat
set_option maxRecDepth 100000
open Go.RowKit
section
variable {u fr wh:List Int} {b:List Bool} {ev:List Ev}
theorem qk7 {hi hw:Int} (h:VA u b fr ev wh) (hl:¬ Live u b hi hw):Fn 78 5 [agA u b fr ev wh,.pv (qaL hi hw)] (agP u b fr ev wh) (.pv (.tuple #[evZ,iV 6])) 0 []:=qrd (hc:=qd6 h) (hl:=qkr h.vd hl)
theorem qlu {hi hw:Int} {j:Nat} {x:Ev} (h:VA u b fr ev wh) (hl:Live u b hi hw) (hj:wh[hi.toNat]?=some (j:Int)) (hx:ev[j]?=some x):Fn 78 5 [agA u b fr ev wh,.pv (qaL hi hw)] (agP u b fr ev wh) (.pv (.tuple #[qab x,iV 0])) 0 []:=by
 have:=(List.getElem?_eq_some_iff.1 hj).1
 have:=(List.getElem?_eq_some_iff.1 hx).1
 have:=hl.lo
 exact qxs (hc:=qd6 h) (hl:=qic h.vd hl) (hiw:=by omega) (hw_:=hj) (hij:=by omega) (hx:=hx)
end
end Go.Proofs.YtkjaanhddkkodaaGreat

namespace Go.Proofs.YtkjaanhddkkodaaGreat
set_option maxRecDepth 100000
open Go.RowKit
theorem qzM (b:Nat) (g:List Int) (x:Int):some (SV.ls b (g.length+1))=some (SV.ls b (g++[x]).length):=by rw[List.length_append];rfl
theorem qti (g:List Int) (x:Int):some (SV.row 3 1 (g.length+1) (ziV g++[iV x]))=some (zrI (g++[x])):=by rw[zrI,qbi,List.length_append];rfl
abbrev qBo (f2:List Int) (g:List Int) (n:Nat):HpL:=[(0,0,.pv (.slice none 0 0)),(0,1,.pv (.slice none 0 0)),(0,2,.pv (.slice none 0 0)),(0,3,.pv (.slice none 0 0)),(0,4,.pv (.slice none 0 0)),(4,0,.ls 1 n),(4,1,.ls 2 n),(4,2,.ls 3 n),(4,3,.pv (.slice none 0 0)),(4,4,.ls 5 (g).length),(1,0,.row 3 1 n (ziV (List.replicate n 0))),(2,0,.row 4 1 n (zbV (List.replicate n false))),(3,0,.row 3 1 n (ziV f2)),(5,0,zrI (g))]
theorem qrH {f2 g:List Int} {k n:Nat} (hlt:decide ((k:Int)<(n:Int))=true) (hn:g.length+1≤1000000) (hs:iV (IntKind.i64.wrap ((k:Int)+1))=iV (((k+1:Nat):Int))) {e:Exit} {tm2:TmL} {hp2:HpL}
 (r:Rl 0 0 15 0 19 6 ([(0,.pv (iV (n:Int))),(2,.pp 0 0),(3,.pp 4 0),(4,.pv (iV ((k+1:Nat):Int)))]) ([(0,0,.pv (.slice none 0 0)),(0,1,.pv (.slice none 0 0)),(0,2,.pv (.slice none 0 0)),(0,3,.pv (.slice none 0 0)),(0,4,.pv (.slice none 0 0)),(4,0,.ls 1 n),(4,1,.ls 2 n),(4,2,.ls 3 n),(4,3,.pv (.slice none 0 0)),(4,4,.ls 5 (g++[-1]).length),(1,0,.row 3 1 n (ziV (List.replicate n 0))),(2,0,.row 4 1 n (zbV (List.replicate n false))),(3,0,.row 3 1 n (ziV f2)),(5,0,zrI (g++[-1]))]) e tm2 hp2):Rl 0 0 15 0 19 6 ([(0,.pv (iV (n:Int))),(2,.pp 0 0),(3,.pp 4 0),(4,.pv (iV (k:Int)))]) (qBo f2 g n) e tm2 hp2:=
 RunsL.next [(5,7)] 300 [.t true,Re hs]
  (qfK (Ai (Eq.refl (SV.pv (iV (n:Int)))) (Ai (Eq.refl (SV.pp 0 0)) (Ai (Eq.refl (SV.pp 4 0)) (Ai (Eq.refl (SV.pv (iV ((k+1:Nat):Int)))) tI)))) (Ai (Er (SV.pv (.slice none 0 0))) (Ai (Er (SV.pv (.slice none 0 0))) (Ai (Er (SV.pv (.slice none 0 0))) (Ai (Er (SV.pv (.slice none 0 0))) (Ai (Er (SV.pv (.slice none 0 0))) (Ai (Er (SV.ls 1 n)) (Ai (Er (SV.ls 2 n)) (Ai (Er (SV.ls 3 n)) (Ai (Er (SV.pv (.slice none 0 0))) (Ai (qzM 7 g (-1)) (Ai (Er (SV.row 3 1 n (ziV (List.replicate n 0)))) (Ai (Er (SV.row 4 1 n (zbV (List.replicate n false)))) (Ai (Er (SV.row 3 1 n (ziV f2))) (Ai (qti g (-1)) tI)))))))))))))) (Ai hlt (Ai hn (Ai hs tI))) (by kernel_rfl)) r
theorem qs9 {f2 g:List Int} {k n:Nat} (hge:decide ((k:Int)<(n:Int))=false):Rl 0 0 15 0 19 6 ([(0,.pv (iV (n:Int))),(2,.pp 0 0),(3,.pp 4 0),(4,.pv (iV (k:Int)))]) (qBo f2 g n) (.exit 0) ([(0,.pv (iV (n:Int))),(2,.pp 0 0),(3,.pp 4 0)]) (qBo f2 g n):=
 RunsL.stop [] 300 [.t false] (fun h=>by cases h)
  (Ro (Ai hge tI))
theorem qv4 {f2 g:List Int} {n:Nat} (h6:Fn 55 0 [.pv (iV (n:Int))] [] (.ag [.ls 0 n,.ls 1 n,.ls 2 n]) 3 [(0,0,.row 3 1 n (ziV (List.replicate n 0))),(1,0,.row 4 1 n (zbV (List.replicate n false))),(2,0,.row 3 1 n (ziV f2))]) (r0:Rl 0 0 15 0 19 6 ([(0,.pv (iV (n:Int))),(2,.pp 0 0),(3,.pp 4 0),(4,.pv (iV ((0:Nat):Int)))]) ([(0,0,.pv (.slice none 0 0)),(0,1,.pv (.slice none 0 0)),(0,2,.pv (.slice none 0 0)),(0,3,.pv (.slice none 0 0)),(0,4,.pv (.slice none 0 0)),(4,0,.ls 1 n),(4,1,.ls 2 n),(4,2,.ls 3 n),(4,3,.pv (.slice none 0 0)),(4,4,.ls 5 ([]:List Int).length),(1,0,.row 3 1 n (ziV (List.replicate n 0))),(2,0,.row 4 1 n (zbV (List.replicate n false))),(3,0,.row 3 1 n (ziV f2)),(5,0,zrI ([]:List Int))]) (.exit 0) ([(0,.pv (iV (n:Int))),(2,.pp 0 0),(3,.pp 4 0)]) (qBo f2 g n)) :
 Fn 15 0 [.pv (iV (n:Int))] [] (.ag [.ls 0 n,.ls 1 n,.ls 2 n,.pv (.slice none 0 0),.ls 3 g.length]) 4 [(0,0,.row 3 1 n (ziV (List.replicate n 0))),(1,0,.row 4 1 n (zbV (List.replicate n false))),(2,0,.row 3 1 n (ziV f2)),(3,0,zrI g)]:=
 Fz [(0,1),(1,2),(2,3),(3,5)] [Cf h6 [],.ln false 4 4 3 1,Lf r0]
  (qaG (qaK [(0,1),(1,2),(2,3),(3,5)]) [(0,0,.row 3 1 n (ziV (List.replicate n 0))),(1,0,.row 4 1 n (zbV (List.replicate n false))),(2,0,.row 3 1 n (ziV f2)),(3,0,zrI g)]) (Co h6 [] 1 (Lo r0 [] tI))
end Go.Proofs.YtkjaanhddkkodaaGreat

namespace Go.Proofs.YtkjaanhddkkodaaGreat
set_option maxRecDepth 100000
open Go.RowKit
def qlY:Int→List P2→List P2→List Ev
 | i,r::rs,h::hs=>⟨r.a,r.b,i,h.a,h.b⟩::qlY (i+1) rs hs
 | _,_,_=>[]
theorem qhQ:∀ (i:Int) (rs hs:List P2) (r h:P2),rs.length=hs.length→qlY i (rs++[r]) (hs++[h])=qlY i rs hs++[⟨r.a,r.b,i+(rs.length:Int),h.a,h.b⟩]
 | i,[],[],r,h,_=>by simp[qlY]
 | i,[],_::_,r,h,e=>by simp at e
 | i,_::_,[],r,h,e=>by simp at e
 | i,a::rs,c::hs,r,h,e=>by
  have:=qhQ (i+1) rs hs r h (by simpa using e)
  simp only[List.cons_append,qlY,this,List.length_cons]
  congr 3
  congr 1
  omega
theorem qsv:∀ {i:Int} {rs hs:List P2} {x:Ev},x∈qlY i rs hs→i≤x.k∧x.k<i+(rs.length:Int)
 | i,[],_,x,h=>by simp[qlY] at h
 | i,_::_,[],x,h=>by simp[qlY] at h
 | i,r::rs,c::hs,x,h=>by
  simp only[qlY,List.mem_cons] at h
  rcases h with rfl | h
  ·simp only[List.length_cons];omega
  ·have:=qsv h
   simp only[List.length_cons];omega
structure FS (rs:List P2) (k:Nat) (u:List Int) (b:List Bool) (fr:List Int) (ev:List Ev) (wh:List Int) (hv:List P2):Prop where
 va:VA u b fr ev wh
 len:hv.length=k
 ul:u.length=50
 ub:∀ y∈u,y≤(k:Int)
 perm:ev.Perm (qlY 0 (rs.take k) hv)
 live:∀ h∈hv,Live u b h.a h.b
def qE3 (rs:List P2):Prop:=∀ r∈rs,(I64 r.a∧I64 r.b)∧okB r.a r.b=true
theorem FS.step {rs:List P2} {k:Nat} {u:List Int} {b:List Bool} {fr:List Int} {ev:List Ev} {wh:List Int} {hv:List P2} (h:FS rs k u b fr ev wh hv) (ho:qE3 rs) (hk:k<rs.length) (hl:rs.length≤30) {ra:P2} (hr:rs[k]?=some ra) :
 ∃ u2 b2 f2 hi hw,qbD u b fr=some (u2,b2,f2,hi,hw)∧cnE ev (k:Int)=0∧FS rs (k+1) u2 b2 f2 (qba ev wh ⟨ra.a,ra.b,(k:Int),hi,hw⟩).1 (qba ev wh ⟨ra.a,ra.b,(k:Int),hi,hw⟩).2 (hv++[⟨hi,hw⟩]):=by
 obtain⟨ht,h0⟩:=ho ra (List.mem_of_getElem? hr)
 have hcnt:=h.va.vd.count
 have hel:ev.length=k:=by
  have h1:=h.perm.length_eq
  have:∀ (i:Int) (rs hs:List P2),rs.length=hs.length→(qlY i rs hs).length=hs.length:=by
   intro i rs hs
   induction rs generalizing i hs with
   | nil=>intro e;cases hs with
    | nil=>rfl
    | cons a r=>simp at e
   | cons a r ih=>intro e;cases hs with
    | nil=>simp at e
    | cons c q=>simp only[qlY,List.length_cons];rw[ih (i+1) q (by simpa using e)]
  rw[this 0 (rs.take k) hv (by rw[List.length_take,h.len];omega),h.len] at h1
  exact h1
 have hc2:=h.va.wf.cnt
 have hul:=h.ul
 have hne:fr≠[]:=fun e=>by rw[e] at hcnt;simp at hcnt;omega
 have hlast:=List.getLast?_eq_some_getLast hne
 generalize fr.getLast hne=hi at hlast
 have hin:=h.va.vd.rng hi (by obtain⟨e,_,_⟩:=qbT hlast;rw[e];simp)
 have hy:u[hi.toNat]?=some (u[hi.toNat]'(by omega)):=List.getElem?_eq_getElem (by omega)
 generalize u[hi.toNat]'(by omega)=y at hy
 have hyb:=h.ub y (List.mem_of_getElem? hy)
 have htk:qbD u b fr=some (u.set hi.toNat (y+1),b.set hi.toNat true,fr.dropLast,hi,y+1):=by
  unfold qbD
  simp only[hlast,hy]
  rw[if_neg (by omega)]
 have hcn:cnE ev (k:Int)=0:=by
  unfold cnE
  rw[if_pos (by omega),if_neg]
  rintro⟨m,hm,e⟩
  have:=qsv (h.perm.mem_iff.1 hm)
  rw[List.length_take] at this
  omega
 obtain⟨v1,v2,v3,v4⟩:=h.va.push (z:=(k:Int)) ht h0 hcn htk
 refine⟨_,_,_,_,_,htk,hcn,v1,by simp[h.len],by rw[List.length_set];exact hul,fun q hq=>?_,?_,fun q hq=>?_⟩
 ·rcases List.mem_or_eq_of_mem_set hq with hq | hq
  ·have:=h.ub q hq;omega
  ·omega
 ·rw[List.take_add_one,hr]
  have e:=qhQ 0 (rs.take k) hv ra ⟨hi,y+1⟩ (by rw[List.length_take,h.len];omega)
  rw[show (some ra).toList=[ra] from rfl,e,List.length_take,show (0:Int)+((min k rs.length:Nat):Int)=(k:Int) by omega]
  exact v2.trans (h.perm.append_right _)
 ·rcases List.mem_append.1 hq with hq | hq
  ·exact v4 _ _ (h.live q hq)
  ·rw[List.mem_singleton] at hq
   subst hq
   exact v3
theorem VA.new {n:Nat} (h1:1≤n) (h2:n≤200):VA (List.replicate n 0) (List.replicate n false) (qaS n) [] (List.replicate n (-1)):=by
 refine VA.of (Vd.new h1 h2) (by simp) (fun j x hx=>by simp at hx) (fun x hx=>by simp at hx) (fun k hk=>?_) (fun k hk=>?_) (by simp[List.count_replicate]) (fun x hx=>by simp at hx) (by simp) (fun k _ x y hx=>by simp at hx)
 ·have:=List.eq_of_mem_replicate (List.mem_of_getElem? hk)
  cases this
 ·have:=(List.getElem?_eq_some_iff.1 hk).1
  simp at this
  simp[this]
end Go.Proofs.YtkjaanhddkkodaaGreat

namespace Go.Proofs.YtkjaanhddkkodaaGreat
set_option maxRecDepth 100000
open Go.RowKit
section
variable {u fr wh:List Int} {b:List Bool} {ev:List Ev}
theorem VA.one {x y:Ev} (h:VA u b fr ev wh) (hx:x∈ev) (hy:y∈ev) (e:x.i=y.i):x=y:=by
 obtain⟨j,hj⟩:=List.mem_iff_getElem?.1 hx
 obtain⟨k,hk⟩:=List.mem_iff_getElem?.1 hy
 have:=h.con.inj hj hk e
 subst this
 rw[hj] at hk
 exact Option.some.inj hk
theorem VA.place {x:Ev} (h:VA u b fr ev wh) (hm:x∈ev):∃ j:Nat,ev[j]?=some x∧wh[x.i.toNat]?=some (j:Int)∧Live u b x.i x.w:=by
 obtain⟨j,hj⟩:=List.mem_iff_getElem?.1 hm
 exact⟨j,hj,(h.own hj).2,(h.own hj).1⟩
section
variable {u2 f2 wh3:List Int} {b2:List Bool} {ev3:List Ev} {gi gw:Int}
end
end
end Go.Proofs.YtkjaanhddkkodaaGreat

namespace Go.Proofs.YtkjaanhddkkodaaGreat
set_option maxRecDepth 100000
open Go.RowKit
section
theorem qqJ {f:FuncId} {args:List SV} {n0 n1 n2 n3:Nat} {r0 r1 r2 r3:SV}
 (h:Fn f 0 args [] (.ag [.ls 0 n0,.ls 1 n1,.ls 2 n2,.pv (.slice none 0 0),.ls 3 n3]) 4 [(0,0,r0),(1,0,r1),(2,0,r2),(3,0,r3)]) (hr:r0.isRow=true∧r1.isRow=true∧r2.isRow=true∧r3.isRow=true) :
 Fn f 0 args [] (.ag [.ls 0 n0,.ls 1 n1,.ls 2 n2,.ls 4 0,.ls 3 n3]) 5 [(0,0,r0),(1,0,r1),(2,0,r2),(3,0,r3),(4,0,qao [])]:=by
 intro w β us hH hd hi
 refine (h w β us hH hd hi).mono fun e w' ⟨v,β',he,hle,hx,hh,hd'⟩=>?_
 obtain⟨ws,hws,h0⟩:=hx
 match ws,hws with
 | [a0,a1,a2,a3,a4],⟨k0,k1,k2,k3,k4,_⟩=>
 have k3':a3=.slice none 0 0:=k3
 subst k3' h0
 have hd4:=hd' 4 (by omega)
 have hle4:β'.le (β'.setG 4 (.slice none 0 0)):=Bl.le_setG hd4.1 hd4.2
 refine⟨_,β'.setG 4 (.slice none 0 0),he,Bl.le_trans hle hle4,⟨[a0,a1,a2,.slice none 0 0,a4],⟨S0.is_mono hle4 k0,S0.is_mono hle4 k1,S0.is_mono hle4 k2,⟨Bl.setG_same _ _ _,none,0,rfl⟩,S0.is_mono hle4 k4,tI⟩,rfl⟩,?_,qbH hd'⟩
 have ho:w'.ownsRow w.heap.size 62 5 (.slice none 0 0) 0 []:=⟨rfl,Or.inl ⟨rfl,rfl⟩⟩
 have look:∀ c o s,qag [(0,0,r0),(1,0,r1),(2,0,r2),(3,0,r3),(4,0,qao [])] c o=some s→(c=4∧o=0∧s=qao [])∨(c≠4∧qag [(0,0,r0),(1,0,r1),(2,0,r2),(3,0,r3)] c o=some s):=by
  intro c o s hs
  by_cases hc:c=4
  ·subst hc
   simp only[qah,if_neg (show ¬ ((0:Nat)=4∧(0:Nat)=o) by omega),if_neg (show ¬ ((1:Nat)=4∧(0:Nat)=o) by omega),if_neg (show ¬ ((2:Nat)=4∧(0:Nat)=o) by omega),if_neg (show ¬ ((3:Nat)=4∧(0:Nat)=o) by omega)] at hs
   split at hs
   ·rename_i e4
    exact Or.inl ⟨rfl,e4.2.symm,(Option.some.inj hs).symm⟩
   ·cases hs
  ·refine Or.inr ⟨hc,?_⟩
   have e4:¬ ((4:Nat)=c∧(0:Nat)=o):=fun e=>hc e.1.symm
   simp only[qah] at hs ⊢
   rw[if_neg e4] at hs
   exact hs
 refine⟨hh.gr,hh.live,hh.inj,hh.new,fun c r hc=>?_,fun c o s hs hsr=>?_,fun c o e es n xs hs=>?_,fun c o e es n xs c' o' e' es' n' xs' u v hs hs' h1 h2 hne gu gv k hu hv=>?_,fun c o xs hs=>?_⟩
 ·have hc':β' c=some r:=hc
  have:c≠4:=fun e=>by subst e;rw[hd4.1] at hc';cases hc'
  show (if c=4 then _ else β'.g c)=none
  rw[if_neg this]
  exact hh.sep c r hc'
 ·rcases look _ _ _ hs with ⟨_,_,rfl⟩ | ⟨_,hs⟩
  ·cases hsr
  ·obtain⟨r,uu,g1,g2,g3⟩:=hh.cells c o s hs hsr
   exact⟨r,uu,g1,SV.is_mono hle4 g2,g3⟩
 ·rcases look _ _ _ hs with ⟨rfl,_,e1⟩ | ⟨hc,hs⟩
  ·cases e1
   refine⟨_,Bl.setG_same _ _ _,qek ho,(fun v hv=>by cases hv),fun h=>by omega,fun _=>ho,fun _ c r hc hu=>by cases hu⟩
  ·obtain⟨uu,g1,g2⟩:=hh.rows c o e es n xs hs
   exact⟨uu,hle4.g g1,g2.rd,g2.one,g2.low,g2.own,fun h c' r hc' hu=>g2.apart h c' r hc' hu⟩
 ·rcases look _ _ _ hs with ⟨rfl,_,e1⟩ | ⟨hc,hs⟩
  ·have gu':=gu
   rw[Bl.setG_same] at gu'
   cases gu';cases hu
  ·rcases look _ _ _ hs' with ⟨rfl,_,e1⟩ | ⟨hc2,hs2⟩
   ·have gv':=gv
    rw[Bl.setG_same] at gv'
    cases gv';cases hv
   ·have e1:β'.g c=some u:=by
     have g':(if c=4 then some (Value.slice none 0 0) else β'.g c)=some u:=gu
     rwa [if_neg hc] at g'
    have e2:β'.g c'=some v:=by
     have g':(if c'=4 then some (Value.slice none 0 0) else β'.g c')=some v:=gv
     rwa [if_neg hc2] at g'
    exact hh.rinj c o e es n xs c' o' e' es' n' xs' u v hs hs2 h1 h2 hne e1 e2 k hu hv
 ·rcases look _ _ _ hs with ⟨_,_,e1⟩ | ⟨_,hs⟩
  ·cases e1
  ·exact hh.maps c o xs hs
end
section
variable {u0 fr0 wh0:List Int} {b0:List Bool}
end
end Go.Proofs.YtkjaanhddkkodaaGreat

namespace Go.Proofs.YtkjaanhddkkodaaGreat
set_option maxRecDepth 100000
open Go.RowKit
section
variable {u fr wh:List Int} {b:List Bool} {ev:List Ev}
theorem qjv (hl:ev.length≤1000000):∀ (d k:Nat),k+d=ev.length→Rl 10 10 67 0 47 12 [(2,.pp 10 0),(3,.pp 11 0),(5,.pv (iV (k:Int)))] [(10,0,.ls 0 u.length),(10,1,.ls 1 b.length),(10,2,.ls 2 fr.length),(10,3,.ls 3 ev.length),(10,4,.ls 4 wh.length),(11,0,.ls 5 u.length),(11,1,.ls 6 b.length),(11,2,.ls 7 fr.length),(11,3,.ls 8 ev.length),(11,4,.ls 9 wh.length),(3,0,qao ev),(8,0,qao ev)] (.exit 0) [] []
 | 0,k,hk=>qtv (hge:=decide_eq_false (by omega))
 | d+1,k,hk=>by
  have hx:ev[k]?=some (ev[k]'(by omega)):=List.getElem?_eq_getElem (by omega)
  exact qrD (hk:=hx) (hin:=by omega) (hlt:=decide_eq_true (by omega)) (hq:=by simp) (hs:=qaC (by omega)) (r:=qjv hl d (k+1) (by omega))
theorem qoR (hg:qdw u b fr=false) (hl:ev.length≤1000000) (hw:wh.length≤1000000):Fn 67 10 [agA u b fr ev wh,.ag [.ls 5 u.length,.ls 6 b.length,.ls 7 fr.length,.ls 8 ev.length,.ls 9 wh.length]] [(0,0,zrI u),(1,0,zrB b),(2,0,zrI fr),(3,0,qao ev),(4,0,zrI wh),(5,0,zrI u),(6,0,zrB b),(7,0,zrI fr),(8,0,qao ev),(9,0,zrI wh)] (.pv (.bool true)) 0 []:=
 qpn (hi:=0) (qpb hg) (qg4 hw) (by simp) (qjv hl ev.length 0 (by omega))
theorem qpx {n:Nat} (h:n≤200):Fn 55 0 [.pv (iV (n:Int))] [] (.ag [.ls 0 n,.ls 1 n,.ls 2 n]) 3 [(0,0,.row 3 1 n (ziV (List.replicate n 0))),(1,0,.row 4 1 n (zbV (List.replicate n false))),(2,0,.row 3 1 n (ziV (qaS n)))]:=by
 have hb:=qxR (n:=n) (g:=qaS n) (by omega) (by omega) (qbn (by omega) (by omega)) (by
  have:=ql4 (n:=n) (by omega) n 0 (by omega)
  rw[show (n:Int)-1-((0:Nat):Int)=(n:Int)-1 by omega] at this
  exact this) (qaU n)
 rw[zrI,qaU] at hb
 exact hb
theorem qjm {n:Nat} {f2:List Int} (h:n≤200):∀ (d k:Nat),k+d=n→Rl 0 0 15 0 19 6 [(0,.pv (iV (n:Int))),(2,.pp 0 0),(3,.pp 4 0),(4,.pv (iV (k:Int)))]
 [(0,0,.pv (.slice none 0 0)),(0,1,.pv (.slice none 0 0)),(0,2,.pv (.slice none 0 0)),(0,3,.pv (.slice none 0 0)),(0,4,.pv (.slice none 0 0)),(4,0,.ls 1 n),(4,1,.ls 2 n),(4,2,.ls 3 n),(4,3,.pv (.slice none 0 0)),(4,4,.ls 5 (List.replicate k (-1:Int)).length),(1,0,.row 3 1 n (ziV (List.replicate n 0))),(2,0,.row 4 1 n (zbV (List.replicate n false))),(3,0,.row 3 1 n (ziV f2)),(5,0,zrI (List.replicate k (-1)))] (.exit 0) [(0,.pv (iV (n:Int))),(2,.pp 0 0),(3,.pp 4 0)]
 [(0,0,.pv (.slice none 0 0)),(0,1,.pv (.slice none 0 0)),(0,2,.pv (.slice none 0 0)),(0,3,.pv (.slice none 0 0)),(0,4,.pv (.slice none 0 0)),(4,0,.ls 1 n),(4,1,.ls 2 n),(4,2,.ls 3 n),(4,3,.pv (.slice none 0 0)),(4,4,.ls 5 (List.replicate n (-1:Int)).length),(1,0,.row 3 1 n (ziV (List.replicate n 0))),(2,0,.row 4 1 n (zbV (List.replicate n false))),(3,0,.row 3 1 n (ziV f2)),(5,0,zrI (List.replicate n (-1)))]
 | 0,k,hk=>by
  have:k=n:=by omega
  subst this
  exact qs9 (hge:=decide_eq_false (by omega))
 | d+1,k,hk=>by
  have r:=qjm (f2:=f2) h d (k+1) (by omega)
  rw[show List.replicate (k+1) (-1:Int)=List.replicate k (-1)++[-1] from List.replicate_succ'] at r
  exact qrH (hlt:=decide_eq_true (by omega)) (hn:=by rw[List.length_replicate];omega) (hs:=qaC (by omega)) (r:=r)
theorem qrv {n:Nat} (h:n≤200):Fn 15 0 [.pv (iV (n:Int))] [] (.ag [.ls 0 (List.replicate n (0:Int)).length,.ls 1 (List.replicate n false).length,.ls 2 (qaS n).length,.ls 4 0,.ls 3 (List.replicate n (-1:Int)).length]) 5
 [(0,0,zrI (List.replicate n 0)),(1,0,zrB (List.replicate n false)),(2,0,zrI (qaS n)),(3,0,zrI (List.replicate n (-1))),(4,0,qao [])]:=by
 have:=qqJ (qv4 (h6:=qpx h) (r0:=qjm h n 0 (by omega))) ⟨rfl,rfl,rfl,rfl⟩
 simp only[zrI,zrB,List.length_replicate,qaU] at this ⊢
 exact this
end
end Go.Proofs.YtkjaanhddkkodaaGreat

namespace Go.Proofs.YtkjaanhddkkodaaGreat
set_option maxRecDepth 100000
open Go.RowKit
structure Ck where
 tn:Int
 td:Int
 s:List Pt
 x:Int
 l:List Pt
 u:List Int
 b:List Bool
 fr:List Int
 ev:List Ev
 wh:List Int
 d:List Pt
abbrev qaJ (l:List Pt):SV:=.row 54 3 l.length (qbd l)
abbrev qam (c:Ck):SV:=.ag [.pv (iV c.tn),.pv (iV c.td),.ls 0 c.s.length,.pv (iV c.x),.ls 1 c.l.length,.ls 2 c.u.length,.ls 3 c.b.length,.ls 4 c.fr.length,.ls 5 c.ev.length,.ls 6 c.wh.length,.ls 7 c.d.length]
abbrev qas (c:Ck):List (Nat×Nat×SV):=[(0,0,qaj c.s),(1,0,qal c.l),(2,0,zrI c.u),(3,0,zrB c.b),(4,0,zrI c.fr),(5,0,qao c.ev),(6,0,zrI c.wh),(7,0,qaJ c.d)]
abbrev qcE (k:Nat) (c:Ck):List (Nat×Nat×SV):=[(k,0,.pv (iV c.tn)),(k,1,.pv (iV c.td)),(k,2,.ls 0 c.s.length),(k,3,.pv (iV c.x)),(k,4,.ls 1 c.l.length),(k,5,.ls 2 c.u.length),(k,6,.ls 3 c.b.length),(k,7,.ls 4 c.fr.length),(k,8,.ls 5 c.ev.length),(k,9,.ls 6 c.wh.length),(k,10,.ls 7 c.d.length),(0,0,qaj c.s),(1,0,qal c.l),(2,0,zrI c.u),(3,0,zrB c.b),(4,0,zrI c.fr),(5,0,qao c.ev),(6,0,zrI c.wh),(7,0,qaJ c.d)]
abbrev qg6 (c:Ck):S1:=.ag [.pv (iV c.tn),.pv (iV c.td),.ls 8 c.s.length,.pv (iV c.x),.ls 9 c.l.length,.ls 10 c.u.length,.ls 11 c.b.length,.ls 12 c.fr.length,.ls 13 c.ev.length,.ls 14 c.wh.length,.ls 15 c.d.length]
abbrev ql0 (c:Ck):SV:=.ag [.pv (iV c.tn),.pv (iV c.td),.ls 8 c.s.length,.pv (iV c.x),.ls 9 c.l.length,.ls 10 c.u.length,.ls 11 c.b.length,.ls 12 c.fr.length,.ls 13 c.ev.length,.ls 14 c.wh.length,.ls 15 c.d.length]
abbrev qc9 (c:Ck):List (Nat×Nat×SV):=[(8,0,qaj c.s),(9,0,qal c.l),(10,0,zrI c.u),(11,0,zrB c.b),(12,0,zrI c.fr),(13,0,qao c.ev),(14,0,zrI c.wh),(15,0,qaJ c.d)]
abbrev qa3:Value:=.agg #[iV 0,iV 0,.slice none 0 0,iV 0,.slice none 0 0,.slice none 0 0,.slice none 0 0,.slice none 0 0,.slice none 0 0,.slice none 0 0,.slice none 0 0]
end Go.Proofs.YtkjaanhddkkodaaGreat

namespace Go.Proofs.YtkjaanhddkkodaaGreat
set_option maxRecDepth 100000
open Go.RowKit
theorem wn9 {s:List Pt} {q g:Pt} {i j:Nat} {n a b tn td z:Int} {w:Bool} (hg:s[i]?=some g) (hq:s[j]?=some q) (hi:0≤(i:Int)∧(i:Int)<(s.length:Int)) (hj:0≤(j:Int)∧(j:Int)<(s.length:Int)) (ha:Fn 72 1 [qaE 0 s,.pv (iV (b))] [(0,0,qaj s)] (.pv (iV (i:Int))) 0 []) (hb:Fn 72 1 [qaE 0 s,.pv (iV (a))] [(0,0,qaj s)] (.pv (iV (j:Int))) 0 []) (hl:Pure Tryz.prog 83 #[ptV g,ptV q,qaa tn td] (.tuple #[qaa n z,.bool w])) :
 Fn 39 1 [qaE 0 s,.pv (qaf a b),.pv (qaa tn td)] [(0,0,qaj s)] (.pv (.tuple #[qaa n z,.bool w])) 0 []:=
 Fz [] [Cf ha [0],.r (ptV g),Cf hb [0],.r (ptV q),Rf hl]
  tI (Co ha [0] 5 (Ai hi (Ai (qaN hg) (Co hb [0] 5 (Ai hj (Ai (qaN hq) (Ai hl tI)))))))
end Go.Proofs.YtkjaanhddkkodaaGreat

namespace Go.Proofs.YtkjaanhddkkodaaGreat
set_option maxRecDepth 100000
open Go.ChangeShapes Go.WideShapes Go.ChangeAt Go.RowKit Go.Joins Go.Deep
section
variable {H:Type} {enc:TypeId×Value→H} {W:World} {base:Nat} {spare:Nat→Bool} {held:Bool}
abbrev ckR (c:Ck):List (TypeId×Nat×Nat×List Value):=[(57,3,c.s.length,qbd c.s),(94,3,c.l.length,qbd c.l),(3,1,c.u.length,ziV c.u),(4,1,c.b.length,zbV c.b),(3,1,c.fr.length,ziV c.fr),(62,5,c.ev.length,qaO c.ev),(3,1,c.wh.length,ziV c.wh),(54,3,c.d.length,qbd c.d)]
end
theorem qjs {W:World} {c:Ck} {u0 u1 u2 u3 u4 u5 u6 u7:Value} {us:List Value} (h:ZIns W [u0,u1,u2,u3,u4,u5,u6,u7] (ckR c)):SV.is (qp5 (u0::u1::u2::u3::u4::u5::u6::u7::us)) (qam c) (.agg #[iV c.tn,iV c.td,u0,iV c.x,u1,u2,u3,u4,u5,u6,u7]):=by
 match h with
 | .cons h0 _ (.cons h1 _ (.cons h2 _ (.cons h3 _ (.cons h4 _ (.cons h5 _ (.cons h6 _ (.cons h7 _ .nil)))))))=>
 exact⟨[iV c.tn,iV c.td,u0,iV c.x,u1,u2,u3,u4,u5,u6,u7],⟨rfl,rfl,⟨rfl,h0.zsl⟩,rfl,⟨rfl,h1.zsl⟩,⟨rfl,h2.zsl⟩,⟨rfl,h3.zsl⟩,⟨rfl,h4.zsl⟩,⟨rfl,h5.zsl⟩,⟨rfl,h6.zsl⟩,⟨rfl,h7.zsl⟩,tI⟩,rfl⟩
theorem ZIns.snoc {W:World} {us:List Value} {rs:List (TypeId×Nat×Nat×List Value)} (h:ZIns W us rs) {u:Value} {e:TypeId} {es n:Nat} {xs:List Value} (h1:Rd W es u n xs) (h2:∀ v∈xs,v.oneCell'=true):ZIns W (us++[u]) (rs++[(e,es,n,xs)]):=by
 induction h with
 | nil=>exact .cons h1 h2 .nil
 | cons a b _ ih=>exact .cons a b ih
end Go.Proofs.YtkjaanhddkkodaaGreat

namespace Go.Proofs.YtkjaanhddkkodaaGreat
set_option maxRecDepth 100000
open Go.RowKit
abbrev qrQ (l:List P2):SV:=.row 48 2 l.length (p2V l)
abbrev qBq (o:Ck):S1:=.ag [.pv (iV o.tn),.pv (iV o.td),.ls 2 o.s.length,.pv (iV o.x),.ls 3 o.l.length,.ls 4 o.u.length,.ls 5 o.b.length,.ls 6 o.fr.length,.ls 7 o.ev.length,.ls 8 o.wh.length,.ls 9 o.d.length]
abbrev qFn (o:Ck):List (Nat×Nat×SV):=[(2,0,qaj o.s),(3,0,qal o.l),(4,0,zrI o.u),(5,0,zrB o.b),(6,0,zrI o.fr),(7,0,qao o.ev),(8,0,zrI o.wh),(9,0,qaJ o.d)]
abbrev qa9 (n:Int):List Pt:=[Pt.mk 1 0 2,Pt.mk 2 6 (-1),Pt.mk 5 0 n]
theorem qja {n:Int} :
 Pure Tryz.prog 13 #[iV n] (qaa n 1):=
 qad (args:=[iV n]) 300 []
  (Ai rfl tI) (by kernel_rfl)
theorem qCo {n:Int} :
 Fn 11 0 [.pv (iV (n))] [] (.ag [.ls 0 3]) 1 [(0,0,qaj (qa9 n))]:=
 Fz [(0,1)] [.lw]
  (qaG (qaK [(0,1)]) [(0,0,qaj (qa9 n))]) tI
abbrev qBD (l:List P2) (o:Ck):HpL:=[(1,0,qrQ l),(4,0,.pv (iV 0)),(4,1,.pv (iV 0)),(4,2,.pv (.slice none 0 0)),(4,3,.pv (iV 0)),(4,4,.pv (.slice none 0 0)),(4,5,.pv (.slice none 0 0)),(4,6,.pv (.slice none 0 0)),(4,7,.pv (.slice none 0 0)),(4,8,.pv (.slice none 0 0)),(4,9,.pv (.slice none 0 0)),(4,10,.pv (.slice none 0 0)),(13,0,.pv (iV o.tn)),(13,1,.pv (iV o.td)),(13,2,.ls 5 o.s.length),(13,3,.pv (iV o.x)),(13,4,.ls 11 o.l.length),(13,5,.ls 6 o.u.length),(13,6,.ls 7 o.b.length),(13,7,.ls 8 o.fr.length),(13,8,.ls 10 o.ev.length),(13,9,.ls 9 o.wh.length),(13,10,.ls 12 o.d.length),(5,0,qaj o.s),(11,0,qal o.l),(6,0,zrI o.u),(7,0,zrB o.b),(8,0,zrI o.fr),(10,0,qao o.ev),(9,0,zrI o.wh),(12,0,qaJ o.d)]
abbrev qCl (k:Nat) (l:List P2):TmL:=[(2,.ls 1 l.length),(6,.pp 4 0),(8,.pp 13 0),(10,.pv (iV (k:Int)))]
theorem qz3 {o o1:Ck} {l:List P2} {k:Nat} {n:Int} {g:P2} (hk:l[k]?=some g) (hin:0≤(k:Int)∧(k:Int)<(l.length:Int)) (hlt:decide ((k:Int)<(l.length:Int))=true) (hc:Fn 16 8 [qam o,.pv (qaf g.a g.b)] (qas o) (.tu [qg6 o1,.one (.pv (iV n)),.one (.pv (iV 0))]) 8 (qc9 o1)) (hs:iV (IntKind.i64.wrap ((k:Int)+1))=iV (((k+1:Nat):Int))) {e:Exit} {tm2:TmL} {hp2:HpL}
 (r:Rl 2 2 12 0 46 14 ([(2,.ls 1 l.length),(6,.pp 4 0),(8,.pp 13 0),(10,.pv (iV ((k+1:Nat):Int)))]) ([(1,0,qrQ l),(4,0,.pv (iV 0)),(4,1,.pv (iV 0)),(4,2,.pv (.slice none 0 0)),(4,3,.pv (iV 0)),(4,4,.pv (.slice none 0 0)),(4,5,.pv (.slice none 0 0)),(4,6,.pv (.slice none 0 0)),(4,7,.pv (.slice none 0 0)),(4,8,.pv (.slice none 0 0)),(4,9,.pv (.slice none 0 0)),(4,10,.pv (.slice none 0 0)),(13,0,.pv (iV o1.tn)),(13,1,.pv (iV o1.td)),(13,2,.ls 5 o1.s.length),(13,3,.pv (iV o1.x)),(13,4,.ls 11 o1.l.length),(13,5,.ls 6 o1.u.length),(13,6,.ls 7 o1.b.length),(13,7,.ls 8 o1.fr.length),(13,8,.ls 10 o1.ev.length),(13,9,.ls 9 o1.wh.length),(13,10,.ls 12 o1.d.length),(5,0,qaj o1.s),(11,0,qal o1.l),(6,0,zrI o1.u),(7,0,zrB o1.b),(8,0,zrI o1.fr),(10,0,qao o1.ev),(9,0,zrI o1.wh),(12,0,qaJ o1.d)]) e tm2 hp2):Rl 2 2 12 0 46 14 (qCl k l) (qBD l o) e tm2 hp2:=
 RunsL.next [(5,14),(11,15),(6,16),(7,17),(8,18),(10,19),(9,20),(12,21)] 300 [.t true,.md,.r (qaf g.a g.b),Cf hc [5,11,6,7,8,10,9,12],.k,Re hs]
  (Ro (Ai hlt (Ai hin (Ai (qEL hk) (Co hc [5,11,6,7,8,10,9,12] 14 (Ai hs tI)))))) r
theorem qvf {o:Ck} {l:List P2} {k:Nat} {z:Int} {g:P2} (hk:l[k]?=some g) (hin:0≤(k:Int)∧(k:Int)<(l.length:Int)) (hlt:decide ((k:Int)<(l.length:Int))=true) (hc:Fn 16 8 [qam o,.pv (qaf g.a g.b)] (qas o) (.pv (.tuple #[qa3,iV 0,iV z])) 0 []) (he:(z==0)=false) (hs:iV (IntKind.i64.wrap ((k:Int)+1))=iV (((k+1:Nat):Int))) {e:Exit} {tm2:TmL} {hp2:HpL}
 (r:Rl 2 2 12 0 46 14 ([(2,.ls 1 l.length),(6,.pp 4 0),(8,.pp 13 0),(10,.pv (iV ((k+1:Nat):Int)))]) (qBD l o) e tm2 hp2):Rl 2 2 12 0 46 14 (qCl k l) (qBD l o) e tm2 hp2:=
 RunsL.next [] 300 [.t true,.md,.r (qaf g.a g.b),Cf hc [5,11,6,7,8,10,9,12],.t false,Re hs]
  (Ro (Ai hlt (Ai hin (Ai (qEL hk) (Co hc [5,11,6,7,8,10,9,12] 14 (Ai he (Ai hs tI))))))) r
abbrev qET (o:Ck):HpL:=[(4,0,.pv (iV 0)),(4,1,.pv (iV 0)),(4,2,.pv (.slice none 0 0)),(4,3,.pv (iV 0)),(4,4,.pv (.slice none 0 0)),(4,5,.pv (.slice none 0 0)),(4,6,.pv (.slice none 0 0)),(4,7,.pv (.slice none 0 0)),(4,8,.pv (.slice none 0 0)),(4,9,.pv (.slice none 0 0)),(4,10,.pv (.slice none 0 0)),(13,0,.pv (iV o.tn)),(13,1,.pv (iV o.td)),(13,2,.ls 5 o.s.length),(13,3,.pv (iV o.x)),(13,4,.ls 11 o.l.length),(13,5,.ls 6 o.u.length),(13,6,.ls 7 o.b.length),(13,7,.ls 8 o.fr.length),(13,8,.ls 10 o.ev.length),(13,9,.ls 9 o.wh.length),(13,10,.ls 12 o.d.length),(5,0,qaj o.s),(11,0,qal o.l),(6,0,zrI o.u),(7,0,zrB o.b),(8,0,zrI o.fr),(10,0,qao o.ev),(9,0,zrI o.wh),(12,0,qaJ o.d)]
theorem qsX {o:Ck} {l:List P2} {k:Nat} (hge:decide ((k:Int)<(l.length:Int))=false):Rl 2 2 12 0 46 14 (qCl k l) (qBD l o) (.exit 0) ([(6,.pp 4 0),(8,.pp 13 0)]) (qET o):=
 RunsL.stop [] 300 [.t false] (fun h=>by cases h)
  (Ro (Ai hge tI))
theorem qoJ {c o:Ck} {s:List Pt} {l:List P2} {tn td:Int} (hn:Fn 10 1 [qaE 0 s,.pv (qaa tn td)] [(0,0,qaj s)] (.tu [.ag [.pv (iV c.tn),.pv (iV c.td),.ls 1 c.s.length,.pv (iV 0),.ls 7 0,.ls 2 c.u.length,.ls 3 c.b.length,.ls 4 c.fr.length,.ls 6 0,.ls 5 c.wh.length,.ls 8 0],.one (.pv (iV 0))]) 8 [(8,0,qaJ []),(7,0,qal []),(1,0,qaj c.s),(2,0,zrI c.u),(3,0,zrB c.b),(4,0,zrI c.fr),(5,0,zrI c.wh),(6,0,qao [])]) (r0:Rl 2 2 12 0 46 14 ([(2,.ls 1 l.length),(6,.pp 4 0),(8,.pp 13 0),(10,.pv (iV ((0:Nat):Int)))]) ([(1,0,qrQ l),(4,0,.pv (iV 0)),(4,1,.pv (iV 0)),(4,2,.pv (.slice none 0 0)),(4,3,.pv (iV 0)),(4,4,.pv (.slice none 0 0)),(4,5,.pv (.slice none 0 0)),(4,6,.pv (.slice none 0 0)),(4,7,.pv (.slice none 0 0)),(4,8,.pv (.slice none 0 0)),(4,9,.pv (.slice none 0 0)),(4,10,.pv (.slice none 0 0)),(13,0,.pv (iV (Ck.mk c.tn c.td c.s 0 [] c.u c.b c.fr [] c.wh []).tn)),(13,1,.pv (iV (Ck.mk c.tn c.td c.s 0 [] c.u c.b c.fr [] c.wh []).td)),(13,2,.ls 5 (Ck.mk c.tn c.td c.s 0 [] c.u c.b c.fr [] c.wh []).s.length),(13,3,.pv (iV (Ck.mk c.tn c.td c.s 0 [] c.u c.b c.fr [] c.wh []).x)),(13,4,.ls 11 (Ck.mk c.tn c.td c.s 0 [] c.u c.b c.fr [] c.wh []).l.length),(13,5,.ls 6 (Ck.mk c.tn c.td c.s 0 [] c.u c.b c.fr [] c.wh []).u.length),(13,6,.ls 7 (Ck.mk c.tn c.td c.s 0 [] c.u c.b c.fr [] c.wh []).b.length),(13,7,.ls 8 (Ck.mk c.tn c.td c.s 0 [] c.u c.b c.fr [] c.wh []).fr.length),(13,8,.ls 10 (Ck.mk c.tn c.td c.s 0 [] c.u c.b c.fr [] c.wh []).ev.length),(13,9,.ls 9 (Ck.mk c.tn c.td c.s 0 [] c.u c.b c.fr [] c.wh []).wh.length),(13,10,.ls 12 (Ck.mk c.tn c.td c.s 0 [] c.u c.b c.fr [] c.wh []).d.length),(5,0,qaj (Ck.mk c.tn c.td c.s 0 [] c.u c.b c.fr [] c.wh []).s),(11,0,qal (Ck.mk c.tn c.td c.s 0 [] c.u c.b c.fr [] c.wh []).l),(6,0,zrI (Ck.mk c.tn c.td c.s 0 [] c.u c.b c.fr [] c.wh []).u),(7,0,zrB (Ck.mk c.tn c.td c.s 0 [] c.u c.b c.fr [] c.wh []).b),(8,0,zrI (Ck.mk c.tn c.td c.s 0 [] c.u c.b c.fr [] c.wh []).fr),(10,0,qao (Ck.mk c.tn c.td c.s 0 [] c.u c.b c.fr [] c.wh []).ev),(9,0,zrI (Ck.mk c.tn c.td c.s 0 [] c.u c.b c.fr [] c.wh []).wh),(12,0,qaJ (Ck.mk c.tn c.td c.s 0 [] c.u c.b c.fr [] c.wh []).d)]) (.exit 0) ([(6,.pp 4 0),(8,.pp 13 0)]) (qET o)) (hck:Fn 31 8 [qam o] (qas o) (.pv (iV (0))) 0 []) :
 Fn 12 2 [qaE 0 s,.pv (qaa tn td),.ls 1 l.length] [(0,0,qaj s),(1,0,qrQ l)] (.tu [qBq o,.one (.pv (.bool true))]) 8 [(2,0,qaj o.s),(3,0,qal o.l),(4,0,zrI o.u),(5,0,zrB o.b),(6,0,zrI o.fr),(7,0,qao o.ev),(8,0,zrI o.wh),(9,0,qaJ o.d)]:=
 Fz [(2,5),(3,11),(4,6),(5,7),(6,8),(7,10),(8,9),(9,12)] [Cf hn [0],.k,Lf r0,Cf hck [5,11,6,7,8,10,9,12],.k]
  (qaG (qaK [(2,5),(3,11),(4,6),(5,7),(6,8),(7,10),(8,9),(9,12)]) [(2,0,qaj o.s),(3,0,qal o.l),(4,0,zrI o.u),(5,0,zrB o.b),(6,0,zrI o.fr),(7,0,qao o.ev),(8,0,zrI o.wh),(9,0,qaJ o.d)]) (Co hn [0] 5 (Lo r0 [] (Co hck [5,11,6,7,8,10,9,12] 14 tI)))
theorem qmn {c o o1:Ck} {y z9:Ev} {p:Pt} (hg0:Fn 11 0 [.pv (iV (0))] [] (.ag [.ls 0 3]) 1 [(0,0,qaj (qa9 0))]) (hat1:Pure Tryz.prog 13 #[iV 1] (qaa 1 1)) (hce:Fn 12 2 [qaE 0 (qa9 0),.pv (qaa 1 1),.ls 1 3] [(0,0,qaj (qa9 0)),(1,0,qrQ [P2.mk 1 2,P2.mk 5 2,P2.mk 5 1])] (.tu [qBq c,.one (.pv (.bool true))]) 8 [(2,0,qaj c.s),(3,0,qal c.l),(4,0,zrI c.u),(5,0,zrB c.b),(6,0,zrI c.fr),(7,0,qao c.ev),(8,0,zrI c.wh),(9,0,qaJ c.d)]) (hat4:Pure Tryz.prog 13 #[iV 4] (qaa 4 1)) (hf1:Fn 19 8 [qam c,.pv (qaa 4 1)] (qas c) (.tu [qg6 o,.one (.pv (qab y)),.one (.pv (qaf p.a p.b)),.one (.pv (iV 0))]) 8 (qc9 o)) (hf2:Fn 19 8 [qam o,.pv (qaa 4 1)] (qas o) (.pv (.tuple #[qa3,.agg #[iV 0,iV 0,iV 0,iV 0,iV 0],qaf 0 0,iV 6])) 0 []) (hat6:Pure Tryz.prog 13 #[iV 6] (qaa 6 1)) (hmv:Fn 20 8 [qam o,.pv (qaa 6 1)] (qas o) (.pv (.tuple #[qa3,iV 36])) 0 []) (hg1:Fn 11 0 [.pv (iV (1))] [] (.ag [.ls 0 3]) 1 [(0,0,qaj (qa9 1))]) (hal1:Fn 21 9 [qam o,qaE 8 (qa9 1)] [(0,0,qaj o.s),(1,0,qal o.l),(2,0,zrI o.u),(3,0,zrB o.b),(4,0,zrI o.fr),(5,0,qao o.ev),(6,0,zrI o.wh),(7,0,qaJ o.d),(8,0,qaj (qa9 1))] (.tu [.ag [.pv (iV o.tn),.pv (iV o.td),.ls 9 3,.pv (iV o.x),.ls 10 o.l.length,.ls 11 o1.u.length,.ls 12 o1.b.length,.ls 13 o1.fr.length,.ls 14 o1.ev.length,.ls 15 o1.wh.length,.ls 16 o1.d.length],.one (.pv (iV 0))]) 8 [(9,0,qaj (qa9 1)),(10,0,qal o.l),(11,0,zrI o1.u),(12,0,zrB o1.b),(13,0,zrI o1.fr),(14,0,qao o1.ev),(15,0,zrI o1.wh),(16,0,qaJ o1.d)]) (hnx:Fn 18 8 [qam ({ o1 with tn:=o.tn,td:=o.td,s:=qa9 1,x:=o.x,l:=o.l }:Ck)] (qas ({ o1 with tn:=o.tn,td:=o.td,s:=qa9 1,x:=o.x,l:=o.l }:Ck)) (.pv (.tuple #[qab z9,iV 0])) 0 []) (t1:((c.d.length:Int)==2)=true) (hat2:Pure Tryz.prog 13 #[iV 2] (qaa 2 1)) (t2:(y.n==2&&(y.d==1&&true))=true) (t3:(p.a==1&&(p.b==2&&true))=true) (t4:(o.tn==2&&(o.td==1&&true))=true) (hat3:Pure Tryz.prog 13 #[iV 3] (qaa 3 1)) (t5:(z9.n==3&&(z9.d==1&&true))=true) (t6:(z9.k==1)=true) :
 Fn 24 0 [] [] (.pv (.bool true)) 0 []:=
 qjk 900 [] [Cf hg0 [],Rf hat1,.lw,Cf hce [0,1],.md,Rf hat4,Cf hf1 [2,3,4,5,6,7,8,9],Rf hat4,Cf hf2 [11,12,13,14,15,16,17,18],Rf hat6,Cf hmv [11,12,13,14,15,16,17,18],.md,Cf hg1 [],Cf hal1 [11,12,13,14,15,16,17,18,26],Cf hnx [27,28,29,30,31,32,33,34],.t true,.k,Rf hat2,.t true,.t true,Rf hat2,.t true,.k,.k,.k,.k,Rf hat3,.t true,.t true]
  tI (Co hg0 [] 0 (Ai hat1 (Co hce [0,1] 2 (Ai hat4 (Co hf1 [2,3,4,5,6,7,8,9] 11 (Ai hat4 (Co hf2 [11,12,13,14,15,16,17,18] 22 (Ai hat6 (Co hmv [11,12,13,14,15,16,17,18] 25 (Co hg1 [] 26 (Co hal1 [11,12,13,14,15,16,17,18,26] 27 (Co hnx [27,28,29,30,31,32,33,34] 36 (Ai t1 (Ai hat2 (Ai t2 (Ai t3 (Ai hat2 (Ai t4 (Ai hat3 (Ai t5 (Ai t6 tI))))))))))))))))))))) (by kernel_rfl)
end Go.Proofs.YtkjaanhddkkodaaGreat
