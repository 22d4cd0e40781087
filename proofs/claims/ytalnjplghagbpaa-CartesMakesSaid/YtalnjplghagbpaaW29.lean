/-
  Joined: Uk, Da, Db, Ea, Eb. Conditions: none.
-/
import Derived.Test.YtalnjplghagbpaaW28
import Derived.Test.YtalnjplghagbpaaW19
import Derived.Test.YtalnjplghagbpaaSxJ
namespace Go.Proofs.Ytalnjplghagbpaa
set_option maxRecDepth 100000
open Go.RowKit
def cK (l:List Pt) (k v:Nat):Nat:=((List.range k).map fun u=>lk l u v).sum
theorem qjR (l:List Pt) (k v:Nat):cK l (k+1) v=cK l k v+lk l k v:=by
 unfold cK
 rw[List.range_succ,List.map_append,List.sum_append]
 simp
theorem qp7 (l:List Pt) (u:Nat) (v:Int):lk l u v≤2:=by
 unfold lk
 split
 ·split<;>split<;>omega
 ·omega
theorem qqz (l:List Pt) (v:Nat):∀ k,cK l k v≤2*k
 | 0=>Nat.le_refl _
 | k+1=>by rw[qjR];have:=qqz l v k;have:=qp7 l k v;omega
def gK (l:List Pt) (k:Nat):List Int:=(List.range l.length).map fun v=>(cK l k v:Int)
theorem qe8 (l:List Pt) (k:Nat):(gK l k).length=l.length:=by unfold gK;rw[List.length_map,List.length_range]
theorem qef (l:List Pt) (k:Nat) {v:Nat} (h:v<l.length):(gK l k)[v]?=some (cK l k v:Int):=by
 unfold gK;rw[List.getElem?_map,List.getElem?_range h];rfl
theorem qoe (l:List Pt):gK l 0=List.replicate l.length 0:=by
 refine List.ext_getElem? fun v=>?_
 rcases Nat.lt_or_ge v l.length with h | h
 ·rw[qef l 0 h,List.getElem?_replicate,if_pos h];rfl
 ·rw[List.getElem?_eq_none (by rw[qe8];exact h),List.getElem?_eq_none (by rw[List.length_replicate];exact h)]
def qew (g:List Int) (z:Int):List Int:=if 0≤z then g.set z.toNat (g.getD z.toNat 0+1) else g
theorem qey (g:List Int) (z:Int):(qew g z).length=g.length:=by unfold qew;split<;>simp
theorem qf0 {g:List Int} {z:Int} {v:Nat} (h:v<g.length):(qew g z)[v]?=some (g.getD v 0+if z=(v:Int) then 1 else 0):=by
 have e:g[v]?=some (g.getD v 0):=by rw[List.getD_eq_getElem?_getD,List.getElem?_eq_getElem h];rfl
 unfold qew
 by_cases hz:0≤z
 ·rw[if_pos hz,List.getElem?_set]
  by_cases ev:z.toNat=v
  ·rw[if_pos ev,if_pos (by omega),if_pos (by omega),ev]
  ·rw[if_neg ev,if_neg (by omega),e];simp
 ·rw[if_neg hz,if_neg (by omega),e];simp
theorem qnf {l:List Pt} {k:Nat} {p:Pt} (hp:l[k]?=some p):gK l (k+1)=qew (qew (gK l k) p.a) p.b:=by
 refine List.ext_getElem? fun v=>?_
 rcases Nat.lt_or_ge v l.length with h | h
 ·have h1:v<(gK l k).length:=by rw[qe8];exact h
  have h2:v<(qew (gK l k) p.a).length:=by rw[qey];exact h1
  rw[qef l (k+1) h,qf0 h2,List.getD_eq_getElem?_getD,qf0 h1,List.getD_eq_getElem?_getD,qef l k h,qjR]
  have e:lk l k v=(if p.a=(v:Int) then 1 else 0)+(if p.b=(v:Int) then 1 else 0):=by unfold lk;rw[hp]
  rw[e]
  simp only[Option.getD_some]
  split<;>split<;>simp<;>omega
 ·rw[List.getElem?_eq_none (by rw[qe8];exact h),List.getElem?_eq_none (by rw[qey,qey,qe8];exact h)]
section
variable {rt:Int} {l:List Pt}
abbrev onT (n k:Nat):List (Nat×SV):=[(1,.pp 1 0),(3,.ls 2 n),(4,.pv (iV (k:Int)))]
abbrev qtj (n k:Nat):List (Nat×SV):=[(1,.pp 1 0),(3,.ls 2 n),(7,.pv (iV (k:Int)))]
abbrev onH (rt:Int) (l:List Pt) (g:List Int):List (Nat×Nat×SV):=[(1,0,.pv (iV rt)),(1,1,.ls 0 l.length),(0,0,qac l),(2,0,.row 3 1 l.length (ziV g))]
theorem qlC (hL:Lnk ⟨rt,l⟩) (hn:l.length≤1000000) {k:Nat} {p:Pt} (hp:l[k]?=some p) {e:Exit} {tm2:TmL} {hp2:HpL}
 (r:Rl 1 1 71 0 77 3 (onT l.length (k+1)) (onH rt l (gK l (k+1))) e tm2 hp2):Rl 1 1 71 0 77 3 (onT l.length k) (onH rt l (gK l k)) e tm2 hp2:=by
 have hkl:=qal hp
 obtain⟨⟨a1,a2⟩,b1,b2⟩:=hL p (List.mem_of_getElem? hp)
 have a2':p.a<(l.length:Int):=a2
 have b2':p.b<(l.length:Int):=b2
 have hin:0≤(k:Int)∧(k:Int)<(l.length:Int):=⟨by omega,by omega⟩
 have gl:=qe8 l k
 have bnd:∀ v,cK l k v≤2000000:=fun v=>by have:=qqz l v k;omega
 rw[qnf hp] at r
 have gd:∀ v,v<l.length→(gK l k).getD v 0=(cK l k v:Int):=fun v hv=>by rw[List.getD_eq_getElem?_getD,qef l k hv];rfl
 by_cases ha:0≤p.a
 ·have hal:p.a.toNat<l.length:=by omega
  have ea:qew (gK l k) p.a=(gK l k).set p.a.toNat ((cK l k p.a.toNat:Int)+1):=by unfold qew;rw[if_pos ha,gd _ hal]
  by_cases hb:0≤p.b
  ·have hbl:p.b.toNat<l.length:=by omega
   have h2:p.b.toNat<((gK l k).set p.a.toNat ((cK l k p.a.toNat:Int)+1)).length:=by rw[List.length_set,gl];exact hbl
   have hv2:(((gK l k).set p.a.toNat ((cK l k p.a.toNat:Int)+1)))[p.b.toNat]?=some (((gK l k).set p.a.toNat ((cK l k p.a.toNat:Int)+1)).getD p.b.toNat 0):=by rw[List.getD_eq_getElem?_getD,List.getElem?_eq_getElem h2];rfl
   have eb:qew ((gK l k).set p.a.toNat ((cK l k p.a.toNat:Int)+1)) p.b=((gK l k).set p.a.toNat ((cK l k p.a.toNat:Int)+1)).set p.b.toNat (((gK l k).set p.a.toNat ((cK l k p.a.toNat:Int)+1)).getD p.b.toNat 0+1):=by
    unfold qew;rw[if_pos hb]
   have small : -1≤((gK l k).set p.a.toNat ((cK l k p.a.toNat:Int)+1)).getD p.b.toNat 0∧((gK l k).set p.a.toNat ((cK l k p.a.toNat:Int)+1)).getD p.b.toNat 0≤3000000:=by
    rw[← ea,List.getD_eq_getElem?_getD,qf0 (by rw[gl];exact hbl),gd _ hbl]
    simp only[Option.getD_some]
    have:=bnd p.b.toNat
    split<;>omega
   rw[ea,eb] at r
   exact qpT (hlt:=dt (by omega)) (hk:=hp) (hin:=hin) (ha:=dt (by omega)) (hia:=⟨ha,a2'⟩) (hga:=qef l k hal) (hgl:=by rw[gl];exact hal) (hy1:=qhG (by omega) (by have:=bnd p.a.toNat;omega)) (hb:=dt (by omega)) (hib:=⟨hb,b2'⟩) (hgb:=hv2) (hgm:=h2) (hy2:=qhG (by omega) (by omega)) (hs:=qaj (by omega)) r
  ·have eb:∀ g,qew g p.b=g:=fun g=>by unfold qew;rw[if_neg hb]
   rw[ea,eb] at r
   exact qrg (hlt:=dt (by omega)) (hk:=hp) (hin:=hin) (ha:=dt (by omega)) (hia:=⟨ha,a2'⟩) (hga:=qef l k hal) (hgl:=by rw[gl];exact hal) (hy1:=qhG (by omega) (by have:=bnd p.a.toNat;omega)) (hb:=df (by omega)) (hs:=qaj (by omega)) r
 ·have ea:qew (gK l k) p.a=gK l k:=by unfold qew;rw[if_neg ha]
  rw[ea] at r
  by_cases hb:0≤p.b
  ·have hbl:p.b.toNat<l.length:=by omega
   have eb:qew (gK l k) p.b=(gK l k).set p.b.toNat ((cK l k p.b.toNat:Int)+1):=by unfold qew;rw[if_pos hb,gd _ hbl]
   rw[eb] at r
   exact qp6 (hlt:=dt (by omega)) (hk:=hp) (hin:=hin) (ha:=df (by omega)) (hb:=dt (by omega)) (hib:=⟨hb,b2'⟩) (hgb:=qef l k hbl) (hgm:=by rw[gl];exact hbl) (hy2:=qhG (by omega) (by have:=bnd p.b.toNat;omega)) (hs:=qaj (by omega)) r
  ·have eb:∀ g,qew g p.b=g:=fun g=>by unfold qew;rw[if_neg hb]
   rw[eb] at r
   exact qqk (hlt:=dt (by omega)) (hk:=hp) (hin:=hin) (ha:=df (by omega)) (hb:=df (by omega)) (hs:=qaj (by omega)) r
theorem qs2 (hL:Lnk ⟨rt,l⟩) (hn:l.length≤1000000):Fn 71 1 [trS 0 rt l] [(0,0,qac l)] (.pv (.bool (pT (One ⟨rt,l⟩)))) 0 []:=by
 have r0:=RunsL.rounds (fun k=>onT l.length k) (fun k=>onH rt l (gK l k)) (N:=l.length) l.length 0 (Nat.zero_add _) (fun k _ hk r=>by
  obtain⟨p,hp⟩:=qao hk
  exact qlC hL hn hp r) (qoA (rt:=rt) (l:=l) (g:=gK l l.length) (k:=l.length) (hlt:=df (by omega)))
 rw[qoe] at r0
 have step:∀ m,(∀ v,v<m→cK l l.length v=if (v:Int)=rt then 0 else 1)→∀ {e:Exit} {tm2:TmL} {hp2:HpL},m≤l.length→
  Rl 1 1 71 1 77 3 (qtj l.length m) (onH rt l (gK l l.length)) e tm2 hp2→Rl 1 1 71 1 77 3 (qtj l.length 0) (onH rt l (gK l l.length)) e tm2 hp2:=by
  intro m hm e tm2 hp2 hml r
  refine RunsL.rounds (fun k=>qtj l.length k) (fun _=>onH rt l (gK l l.length)) (N:=m) m 0 (Nat.zero_add _) (fun k _ hk r=>?_) r
  have hc:=hm k hk
  have hg:=qef l l.length (v:=k) (by omega)
  by_cases er:(k:Int)=rt
  ·rw[if_pos er] at hc
   exact qlV (x:=(cK l l.length k:Int)) (hlt:=dt (by omega)) (hr:=beq_iff_eq.2 er) (hg:=hg) (hin:=⟨by omega,by omega⟩) (h0:=by rw[hc];rfl) (hr2:=by simp[er]) (hs:=qaj (by omega)) r
  ·rw[if_neg er] at hc
   exact qlL (x:=(cK l l.length k:Int)) (hlt:=dt (by omega)) (hr:=beq_eq_false_iff_ne.2 er) (hr2:=by simpa using er) (hg:=hg) (hin:=⟨by omega,by omega⟩) (h1:=by rw[hc];rfl) (hs:=qaj (by omega)) r
 rcases qaW (fun v=>cK l l.length v=if (v:Int)=rt then 0 else 1) l.length with h | ⟨v,hv,hb,hf⟩
 ·rw[qdL (p:=One ⟨rt,l⟩) fun v hv=>h v hv]
  exact qol (n0:=by omega) (n1:=by omega) (r0:=r0) (r1:=step l.length h (Nat.le_refl _) (qlX (hlt:=df (by omega))))
 ·rw[qc7 (p:=One ⟨rt,l⟩) fun k=>hb (k v hv)]
  have hg:=qef l l.length hv
  refine qqY (n0:=by omega) (n1:=by omega) (r0:=r0) (r1:=step v hf (by omega) ?_)
  by_cases er:(v:Int)=rt
  ·rw[if_pos er] at hb
   exact qiQ (x:=(cK l l.length v:Int)) (hlt:=dt (by omega)) (hr:=beq_iff_eq.2 er) (hg:=hg) (hin:=⟨by omega,by omega⟩) (h0:=by simp;omega)
  ·rw[if_neg er] at hb
   exact qjG (x:=(cK l l.length v:Int)) (hlt:=dt (by omega)) (hr:=beq_eq_false_iff_ne.2 er) (hr2:=by simpa using er) (hg:=hg) (hin:=⟨by omega,by omega⟩) (h1:=by simp;omega)
end
end Go.Proofs.Ytalnjplghagbpaa

namespace Go.Proofs.Ytalnjplghagbpaa
set_option maxRecDepth 100000
open Go.RowKit
theorem qcK {rt z:Int} {l:List Pt} {n:Nat} {vs:List Value} (h0:decide (z<0)=true) :
 FnO Try.prog 96 1 2 [trS 0 rt l,.pv (iV (z)),.ls 1 n] [(0,0,qac l),(1,0,.row 3 1 n (vs))] (.ls 1 n) 0 [(1,0,.row 3 1 n (vs))]:=
 qaJ 300 [] [.t true]
  (qam (qaF []) [(1,0,.row 3 1 n (vs))]) (Ai h0 tI) (by kernel_rfl)
theorem qfF {rt z:Int} {l:List Pt} (h0:decide (z<0)=true) :
 Fn 96 1 [trS 0 rt l,.pv (iV (z)),.pv (.slice none 0 0)] [(0,0,qac l)] (.pv (.slice none 0 0)) 0 []:=
 Fz [] [.t true]
  tI (Ai h0 tI)
abbrev qh8 (c1:List Int) (l:List Pt) (z:Int):HpL:=[(0,0,qac l),(1,0,.row 3 1 (c1.length+1) (ziV c1++[iV z]))]
theorem qpi {rt z:Int} {l:List Pt} {p:Pt} {g c1 c2:List Int} (h0:decide (z<0)=false) (h1:decide (((g.length:Int):Int)>(l.length:Int))=false) (hk:l[z.toNat]?=some p) (hin:0≤z∧z<(l.length:Int)) (hl:FnO Try.prog 96 1 2 [trS 0 rt l,.pv (iV (p.a)),.ls 1 g.length] [(0,0,qac l),(1,0,.row 3 1 g.length (ziV g))] (.ls 2 c1.length) 1 [(2,0,zrI c1)]) (hn:c1.length+1≤1000000) (hr:FnO Try.prog 96 1 2 [trS 0 rt l,.pv (iV (p.b)),.ls 1 (c1.length+1)] (qh8 c1 l z) (.ls 2 c2.length) 1 [(2,0,zrI c2)]) :
 FnO Try.prog 96 1 2 [trS 0 rt l,.pv (iV (z)),.ls 1 g.length] [(0,0,qac l),(1,0,zrI g)] (.ls 2 c2.length) 1 [(2,0,.row 3 1 c2.length (ziV c2))]:=
 qaJ 300 [(2,6)] [.t false,.t false,.gh [(2,0),(2,1)],.r (iV p.a),.fo 1 [0,1] [trS 0 rt l,.pv (iV (p.a)),.ls 1 g.length] [(0,0,qac l),(1,0,.row 3 1 g.length (ziV g))] (.ls 2 c1.length) 1 [(2,0,zrI c1)],.gh [(2,0),(2,1)],.r (iV p.b),.fo 1 [0,5] [trS 0 rt l,.pv (iV (p.b)),.ls 1 (c1.length+1)] (qh8 c1 l z) (.ls 2 c2.length) 1 [(2,0,zrI c2)]]
  (qam (qaF [(2,6)]) [(2,0,.row 3 1 c2.length (ziV c2))]) (Ai h0 (Ai h1 (Ai (Er (SV.pv (iV rt))) (Ai (Er (SV.ls 0 l.length)) (Ai hin (Ai (Er (SV.pv (iV rt))) (Ai (Er (SV.ls 0 l.length)) (Ai (Er (SV.pv (iV rt))) (Ai (Er (SV.ls 0 l.length)) (Ai (qbR hk) (Ai (Er (SV.pv (iV rt))) (Ai (Er (SV.ls 0 l.length)) (Ai hl (Ai (Eq.refl (List.map (SV.ren (qap [0,1] 3)) [trS 0 rt l,.pv (iV (p.a)),.ls 1 g.length])) (Ai (qam (qap [0,1] 3) [(0,0,qac l),(1,0,.row 3 1 g.length (ziV g))]) (Ai (Er (SV.pv (iV rt))) (Ai (Er (SV.ls 0 l.length)) (Ai (Er (SV.pv (iV rt))) (Ai (Er (SV.ls 0 l.length)) (Ai hn (Ai (Er (SV.pv (iV rt))) (Ai (Er (SV.ls 0 l.length)) (Ai hin (Ai (Er (SV.pv (iV rt))) (Ai (Er (SV.ls 0 l.length)) (Ai (Er (SV.pv (iV rt))) (Ai (Er (SV.ls 0 l.length)) (Ai (qck hk) (Ai (Er (SV.pv (iV rt))) (Ai (Er (SV.ls 0 l.length)) (Ai hr (Ai (Eq.refl (List.map (SV.ren (qap [0,5] 6)) [trS 0 rt l,.pv (iV (p.b)),.ls 1 (c1.length+1)])) (Ai (qam (qap [0,5] 6) (qh8 c1 l z)) (Ai (Er (SV.pv (iV rt))) (Ai (Er (SV.ls 0 l.length)) (Ai (Er (SV.pv (iV rt))) (Ai (Er (SV.ls 0 l.length)) tI))))))))))))))))))))))))))))))))))))) (by kernel_rfl)
theorem qrm {rt z:Int} {l:List Pt} {p:Pt} {g c1:List Int} (h0:decide (z<0)=false) (h1:decide (((g.length:Int):Int)>(l.length:Int))=false) (hk:l[z.toNat]?=some p) (hin:0≤z∧z<(l.length:Int)) (hl:FnO Try.prog 96 1 2 [trS 0 rt l,.pv (iV (p.a)),.ls 1 g.length] [(0,0,qac l),(1,0,.row 3 1 g.length (ziV g))] (.ls 2 c1.length) 1 [(2,0,zrI c1)]) (hn:c1.length+1≤1000000) (hr:FnO Try.prog 96 1 2 [trS 0 rt l,.pv (iV (p.b)),.ls 1 (c1.length+1)] (qh8 c1 l z) (.ls 1 (c1.length+1)) 0 [(1,0,.row 3 1 (c1.length+1) (ziV c1++[iV z]))]) :
 FnO Try.prog 96 1 2 [trS 0 rt l,.pv (iV (z)),.ls 1 g.length] [(0,0,qac l),(1,0,zrI g)] (.ls 2 (c1.length+1)) 1 [(2,0,.row 3 1 (c1.length+1) (ziV c1++[iV z]))]:=
 qaJ 300 [(2,5)] [.t false,.t false,.gh [(2,0),(2,1)],.r (iV p.a),.fo 1 [0,1] [trS 0 rt l,.pv (iV (p.a)),.ls 1 g.length] [(0,0,qac l),(1,0,.row 3 1 g.length (ziV g))] (.ls 2 c1.length) 1 [(2,0,zrI c1)],.gh [(2,0),(2,1)],.r (iV p.b),.fo 1 [0,5] [trS 0 rt l,.pv (iV (p.b)),.ls 1 (c1.length+1)] (qh8 c1 l z) (.ls 1 (c1.length+1)) 0 [(1,0,.row 3 1 (c1.length+1) (ziV c1++[iV z]))]]
  (qam (qaF [(2,5)]) [(2,0,.row 3 1 (c1.length+1) (ziV c1++[iV z]))]) (Ai h0 (Ai h1 (Ai (Er (SV.pv (iV rt))) (Ai (Er (SV.ls 0 l.length)) (Ai hin (Ai (Er (SV.pv (iV rt))) (Ai (Er (SV.ls 0 l.length)) (Ai (Er (SV.pv (iV rt))) (Ai (Er (SV.ls 0 l.length)) (Ai (qbR hk) (Ai (Er (SV.pv (iV rt))) (Ai (Er (SV.ls 0 l.length)) (Ai hl (Ai (Eq.refl (List.map (SV.ren (qap [0,1] 3)) [trS 0 rt l,.pv (iV (p.a)),.ls 1 g.length])) (Ai (qam (qap [0,1] 3) [(0,0,qac l),(1,0,.row 3 1 g.length (ziV g))]) (Ai (Er (SV.pv (iV rt))) (Ai (Er (SV.ls 0 l.length)) (Ai (Er (SV.pv (iV rt))) (Ai (Er (SV.ls 0 l.length)) (Ai hn (Ai (Er (SV.pv (iV rt))) (Ai (Er (SV.ls 0 l.length)) (Ai hin (Ai (Er (SV.pv (iV rt))) (Ai (Er (SV.ls 0 l.length)) (Ai (Er (SV.pv (iV rt))) (Ai (Er (SV.ls 0 l.length)) (Ai (qck hk) (Ai (Er (SV.pv (iV rt))) (Ai (Er (SV.ls 0 l.length)) (Ai hr (Ai (Eq.refl (List.map (SV.ren (qap [0,5] 6)) [trS 0 rt l,.pv (iV (p.b)),.ls 1 (c1.length+1)])) (Ai (qam (qap [0,5] 6) (qh8 c1 l z)) (Ai (Er (SV.pv (iV rt))) (Ai (Er (SV.ls 0 l.length)) (Ai (Er (SV.pv (iV rt))) (Ai (Er (SV.ls 0 l.length)) tI))))))))))))))))))))))))))))))))))))) (by kernel_rfl)
theorem qre {rt z:Int} {l:List Pt} {p:Pt} {g c2:List Int} (h0:decide (z<0)=false) (h1:decide (((g.length:Int):Int)>(l.length:Int))=false) (hk:l[z.toNat]?=some p) (hin:0≤z∧z<(l.length:Int)) (hl:FnO Try.prog 96 1 2 [trS 0 rt l,.pv (iV (p.a)),.ls 1 g.length] [(0,0,qac l),(1,0,.row 3 1 g.length (ziV g))] (.ls 1 g.length) 0 [(1,0,.row 3 1 g.length (ziV g))]) (hn:g.length+1≤1000000) (hr:FnO Try.prog 96 1 2 [trS 0 rt l,.pv (iV (p.b)),.ls 1 (g.length+1)] [(0,0,qac l),(1,0,.row 3 1 (g.length+1) (ziV g++[iV z]))] (.ls 2 c2.length) 1 [(2,0,zrI c2)]) :
 FnO Try.prog 96 1 2 [trS 0 rt l,.pv (iV (z)),.ls 1 g.length] [(0,0,qac l),(1,0,zrI g)] (.ls 2 c2.length) 1 [(2,0,.row 3 1 c2.length (ziV c2))]:=
 qaJ 300 [(2,5)] [.t false,.t false,.gh [(2,0),(2,1)],.r (iV p.a),.fo 1 [0,1] [trS 0 rt l,.pv (iV (p.a)),.ls 1 g.length] [(0,0,qac l),(1,0,.row 3 1 g.length (ziV g))] (.ls 1 g.length) 0 [(1,0,.row 3 1 g.length (ziV g))],.gh [(2,0),(2,1)],.r (iV p.b),.fo 1 [0,4] [trS 0 rt l,.pv (iV (p.b)),.ls 1 (g.length+1)] [(0,0,qac l),(1,0,.row 3 1 (g.length+1) (ziV g++[iV z]))] (.ls 2 c2.length) 1 [(2,0,zrI c2)]]
  (qam (qaF [(2,5)]) [(2,0,.row 3 1 c2.length (ziV c2))]) (Ai h0 (Ai h1 (Ai (Er (SV.pv (iV rt))) (Ai (Er (SV.ls 0 l.length)) (Ai hin (Ai (Er (SV.pv (iV rt))) (Ai (Er (SV.ls 0 l.length)) (Ai (Er (SV.pv (iV rt))) (Ai (Er (SV.ls 0 l.length)) (Ai (qbR hk) (Ai (Er (SV.pv (iV rt))) (Ai (Er (SV.ls 0 l.length)) (Ai hl (Ai (Eq.refl (List.map (SV.ren (qap [0,1] 3)) [trS 0 rt l,.pv (iV (p.a)),.ls 1 g.length])) (Ai (qam (qap [0,1] 3) [(0,0,qac l),(1,0,.row 3 1 g.length (ziV g))]) (Ai (Er (SV.pv (iV rt))) (Ai (Er (SV.ls 0 l.length)) (Ai (Er (SV.pv (iV rt))) (Ai (Er (SV.ls 0 l.length)) (Ai hn (Ai (Er (SV.pv (iV rt))) (Ai (Er (SV.ls 0 l.length)) (Ai hin (Ai (Er (SV.pv (iV rt))) (Ai (Er (SV.ls 0 l.length)) (Ai (Er (SV.pv (iV rt))) (Ai (Er (SV.ls 0 l.length)) (Ai (qck hk) (Ai (Er (SV.pv (iV rt))) (Ai (Er (SV.ls 0 l.length)) (Ai hr (Ai (Eq.refl (List.map (SV.ren (qap [0,4] 5)) [trS 0 rt l,.pv (iV (p.b)),.ls 1 (g.length+1)])) (Ai (qam (qap [0,4] 5) [(0,0,qac l),(1,0,.row 3 1 (g.length+1) (ziV g++[iV z]))]) (Ai (Er (SV.pv (iV rt))) (Ai (Er (SV.ls 0 l.length)) (Ai (Er (SV.pv (iV rt))) (Ai (Er (SV.ls 0 l.length)) tI))))))))))))))))))))))))))))))))))))) (by kernel_rfl)
theorem qpO {rt z:Int} {l:List Pt} {p:Pt} {g:List Int} (h0:decide (z<0)=false) (h1:decide (((g.length:Int):Int)>(l.length:Int))=false) (hk:l[z.toNat]?=some p) (hin:0≤z∧z<(l.length:Int)) (hl:FnO Try.prog 96 1 2 [trS 0 rt l,.pv (iV (p.a)),.ls 1 g.length] [(0,0,qac l),(1,0,.row 3 1 g.length (ziV g))] (.ls 1 g.length) 0 [(1,0,.row 3 1 g.length (ziV g))]) (hn:g.length+1≤1000000) (hr:FnO Try.prog 96 1 2 [trS 0 rt l,.pv (iV (p.b)),.ls 1 (g.length+1)] [(0,0,qac l),(1,0,.row 3 1 (g.length+1) (ziV g++[iV z]))] (.ls 1 (g.length+1)) 0 [(1,0,.row 3 1 (g.length+1) (ziV g++[iV z]))]) :
 FnO Try.prog 96 1 2 [trS 0 rt l,.pv (iV (z)),.ls 1 g.length] [(0,0,qac l),(1,0,zrI g)] (.ls 2 (g.length+1)) 1 [(2,0,.row 3 1 (g.length+1) (ziV g++[iV z]))]:=
 qaJ 300 [(2,4)] [.t false,.t false,.gh [(2,0),(2,1)],.r (iV p.a),.fo 1 [0,1] [trS 0 rt l,.pv (iV (p.a)),.ls 1 g.length] [(0,0,qac l),(1,0,.row 3 1 g.length (ziV g))] (.ls 1 g.length) 0 [(1,0,.row 3 1 g.length (ziV g))],.gh [(2,0),(2,1)],.r (iV p.b),.fo 1 [0,4] [trS 0 rt l,.pv (iV (p.b)),.ls 1 (g.length+1)] [(0,0,qac l),(1,0,.row 3 1 (g.length+1) (ziV g++[iV z]))] (.ls 1 (g.length+1)) 0 [(1,0,.row 3 1 (g.length+1) (ziV g++[iV z]))]]
  (qam (qaF [(2,4)]) [(2,0,.row 3 1 (g.length+1) (ziV g++[iV z]))]) (Ai h0 (Ai h1 (Ai (Er (SV.pv (iV rt))) (Ai (Er (SV.ls 0 l.length)) (Ai hin (Ai (Er (SV.pv (iV rt))) (Ai (Er (SV.ls 0 l.length)) (Ai (Er (SV.pv (iV rt))) (Ai (Er (SV.ls 0 l.length)) (Ai (qbR hk) (Ai (Er (SV.pv (iV rt))) (Ai (Er (SV.ls 0 l.length)) (Ai hl (Ai (Eq.refl (List.map (SV.ren (qap [0,1] 3)) [trS 0 rt l,.pv (iV (p.a)),.ls 1 g.length])) (Ai (qam (qap [0,1] 3) [(0,0,qac l),(1,0,.row 3 1 g.length (ziV g))]) (Ai (Er (SV.pv (iV rt))) (Ai (Er (SV.ls 0 l.length)) (Ai (Er (SV.pv (iV rt))) (Ai (Er (SV.ls 0 l.length)) (Ai hn (Ai (Er (SV.pv (iV rt))) (Ai (Er (SV.ls 0 l.length)) (Ai hin (Ai (Er (SV.pv (iV rt))) (Ai (Er (SV.ls 0 l.length)) (Ai (Er (SV.pv (iV rt))) (Ai (Er (SV.ls 0 l.length)) (Ai (qck hk) (Ai (Er (SV.pv (iV rt))) (Ai (Er (SV.ls 0 l.length)) (Ai hr (Ai (Eq.refl (List.map (SV.ren (qap [0,4] 5)) [trS 0 rt l,.pv (iV (p.b)),.ls 1 (g.length+1)])) (Ai (qam (qap [0,4] 5) [(0,0,qac l),(1,0,.row 3 1 (g.length+1) (ziV g++[iV z]))]) (Ai (Er (SV.pv (iV rt))) (Ai (Er (SV.ls 0 l.length)) (Ai (Er (SV.pv (iV rt))) (Ai (Er (SV.ls 0 l.length)) tI))))))))))))))))))))))))))))))))))))) (by kernel_rfl)
theorem qpU {rt z:Int} {l:List Pt} {p:Pt} {c1 c2:List Int} (h0:decide (z<0)=false) (h1:decide ((0:Int)>(l.length:Int))=false) (hk:l[z.toNat]?=some p) (hin:0≤z∧z<(l.length:Int)) (hl:FnO Try.prog 96 1 2 [trS 0 rt l,.pv (iV (p.a)),.ls 1 0] [(0,0,qac l),(1,0,.row 3 1 0 ([]))] (.ls 2 c1.length) 1 [(2,0,zrI c1)]) (hn:c1.length+1≤1000000) (hr:FnO Try.prog 96 1 2 [trS 0 rt l,.pv (iV (p.b)),.ls 1 (c1.length+1)] (qh8 c1 l z) (.ls 2 c2.length) 1 [(2,0,zrI c2)]) :
 Fn 96 1 [trS 0 rt l,.pv (iV (z)),.pv (.slice none 0 0)] [(0,0,qac l)] (.ls 1 c2.length) 1 [(1,0,.row 3 1 c2.length (ziV c2))]:=
 Fz [(1,6)] [.lz true 2 0 3 1,.t false,.t false,.gh [(2,0),(2,1)],.r (iV p.a),.fo 1 [0,1] [trS 0 rt l,.pv (iV (p.a)),.ls 1 0] [(0,0,qac l),(1,0,.row 3 1 0 ([]))] (.ls 2 c1.length) 1 [(2,0,zrI c1)],.gh [(2,0),(2,1)],.r (iV p.b),.fo 1 [0,5] [trS 0 rt l,.pv (iV (p.b)),.ls 1 (c1.length+1)] (qh8 c1 l z) (.ls 2 c2.length) 1 [(2,0,zrI c2)]]
  (qam (qaF [(1,6)]) [(1,0,.row 3 1 c2.length (ziV c2))]) (Ai h0 (Ai h1 (Ai (Er (SV.pv (iV rt))) (Ai (Er (SV.ls 0 l.length)) (Ai hin (Ai (Er (SV.pv (iV rt))) (Ai (Er (SV.ls 0 l.length)) (Ai (Er (SV.pv (iV rt))) (Ai (Er (SV.ls 0 l.length)) (Ai (qbR hk) (Ai (Er (SV.pv (iV rt))) (Ai (Er (SV.ls 0 l.length)) (Ai hl (Ai (Eq.refl (List.map (SV.ren (qap [0,1] 3)) [trS 0 rt l,.pv (iV (p.a)),.ls 1 0])) (Ai (qam (qap [0,1] 3) [(0,0,qac l),(1,0,.row 3 1 0 ([]))]) (Ai (Er (SV.pv (iV rt))) (Ai (Er (SV.ls 0 l.length)) (Ai (Er (SV.pv (iV rt))) (Ai (Er (SV.ls 0 l.length)) (Ai hn (Ai (Er (SV.pv (iV rt))) (Ai (Er (SV.ls 0 l.length)) (Ai hin (Ai (Er (SV.pv (iV rt))) (Ai (Er (SV.ls 0 l.length)) (Ai (Er (SV.pv (iV rt))) (Ai (Er (SV.ls 0 l.length)) (Ai (qck hk) (Ai (Er (SV.pv (iV rt))) (Ai (Er (SV.ls 0 l.length)) (Ai hr (Ai (Eq.refl (List.map (SV.ren (qap [0,5] 6)) [trS 0 rt l,.pv (iV (p.b)),.ls 1 (c1.length+1)])) (Ai (qam (qap [0,5] 6) (qh8 c1 l z)) (Ai (Er (SV.pv (iV rt))) (Ai (Er (SV.ls 0 l.length)) (Ai (Er (SV.pv (iV rt))) (Ai (Er (SV.ls 0 l.length)) tI)))))))))))))))))))))))))))))))))))))
theorem qrd {rt z:Int} {l:List Pt} {p:Pt} {c1:List Int} (h0:decide (z<0)=false) (h1:decide ((0:Int)>(l.length:Int))=false) (hk:l[z.toNat]?=some p) (hin:0≤z∧z<(l.length:Int)) (hl:FnO Try.prog 96 1 2 [trS 0 rt l,.pv (iV (p.a)),.ls 1 0] [(0,0,qac l),(1,0,.row 3 1 0 ([]))] (.ls 2 c1.length) 1 [(2,0,zrI c1)]) (hn:c1.length+1≤1000000) (hr:FnO Try.prog 96 1 2 [trS 0 rt l,.pv (iV (p.b)),.ls 1 (c1.length+1)] (qh8 c1 l z) (.ls 1 (c1.length+1)) 0 [(1,0,.row 3 1 (c1.length+1) (ziV c1++[iV z]))]) :
 Fn 96 1 [trS 0 rt l,.pv (iV (z)),.pv (.slice none 0 0)] [(0,0,qac l)] (.ls 1 (c1.length+1)) 1 [(1,0,.row 3 1 (c1.length+1) (ziV c1++[iV z]))]:=
 Fz [(1,5)] [.lz true 2 0 3 1,.t false,.t false,.gh [(2,0),(2,1)],.r (iV p.a),.fo 1 [0,1] [trS 0 rt l,.pv (iV (p.a)),.ls 1 0] [(0,0,qac l),(1,0,.row 3 1 0 ([]))] (.ls 2 c1.length) 1 [(2,0,zrI c1)],.gh [(2,0),(2,1)],.r (iV p.b),.fo 1 [0,5] [trS 0 rt l,.pv (iV (p.b)),.ls 1 (c1.length+1)] (qh8 c1 l z) (.ls 1 (c1.length+1)) 0 [(1,0,.row 3 1 (c1.length+1) (ziV c1++[iV z]))]]
  (qam (qaF [(1,5)]) [(1,0,.row 3 1 (c1.length+1) (ziV c1++[iV z]))]) (Ai h0 (Ai h1 (Ai (Er (SV.pv (iV rt))) (Ai (Er (SV.ls 0 l.length)) (Ai hin (Ai (Er (SV.pv (iV rt))) (Ai (Er (SV.ls 0 l.length)) (Ai (Er (SV.pv (iV rt))) (Ai (Er (SV.ls 0 l.length)) (Ai (qbR hk) (Ai (Er (SV.pv (iV rt))) (Ai (Er (SV.ls 0 l.length)) (Ai hl (Ai (Eq.refl (List.map (SV.ren (qap [0,1] 3)) [trS 0 rt l,.pv (iV (p.a)),.ls 1 0])) (Ai (qam (qap [0,1] 3) [(0,0,qac l),(1,0,.row 3 1 0 ([]))]) (Ai (Er (SV.pv (iV rt))) (Ai (Er (SV.ls 0 l.length)) (Ai (Er (SV.pv (iV rt))) (Ai (Er (SV.ls 0 l.length)) (Ai hn (Ai (Er (SV.pv (iV rt))) (Ai (Er (SV.ls 0 l.length)) (Ai hin (Ai (Er (SV.pv (iV rt))) (Ai (Er (SV.ls 0 l.length)) (Ai (Er (SV.pv (iV rt))) (Ai (Er (SV.ls 0 l.length)) (Ai (qck hk) (Ai (Er (SV.pv (iV rt))) (Ai (Er (SV.ls 0 l.length)) (Ai hr (Ai (Eq.refl (List.map (SV.ren (qap [0,5] 6)) [trS 0 rt l,.pv (iV (p.b)),.ls 1 (c1.length+1)])) (Ai (qam (qap [0,5] 6) (qh8 c1 l z)) (Ai (Er (SV.pv (iV rt))) (Ai (Er (SV.ls 0 l.length)) (Ai (Er (SV.pv (iV rt))) (Ai (Er (SV.ls 0 l.length)) tI)))))))))))))))))))))))))))))))))))))
theorem qpC {rt z:Int} {l:List Pt} {p:Pt} {c2:List Int} (h0:decide (z<0)=false) (h1:decide ((0:Int)>(l.length:Int))=false) (hk:l[z.toNat]?=some p) (hin:0≤z∧z<(l.length:Int)) (hl:FnO Try.prog 96 1 2 [trS 0 rt l,.pv (iV (p.a)),.ls 1 0] [(0,0,qac l),(1,0,.row 3 1 0 ([]))] (.ls 1 0) 0 [(1,0,.row 3 1 0 ([]))]) (hn:0+1≤1000000) (hr:FnO Try.prog 96 1 2 [trS 0 rt l,.pv (iV (p.b)),.ls 1 (0+1)] [(0,0,qac l),(1,0,.row 3 1 (0+1) ([]++[iV z]))] (.ls 2 c2.length) 1 [(2,0,zrI c2)]) :
 Fn 96 1 [trS 0 rt l,.pv (iV (z)),.pv (.slice none 0 0)] [(0,0,qac l)] (.ls 1 c2.length) 1 [(1,0,.row 3 1 c2.length (ziV c2))]:=
 Fz [(1,5)] [.lz true 2 0 3 1,.t false,.t false,.gh [(2,0),(2,1)],.r (iV p.a),.fo 1 [0,1] [trS 0 rt l,.pv (iV (p.a)),.ls 1 0] [(0,0,qac l),(1,0,.row 3 1 0 ([]))] (.ls 1 0) 0 [(1,0,.row 3 1 0 ([]))],.gh [(2,0),(2,1)],.r (iV p.b),.fo 1 [0,4] [trS 0 rt l,.pv (iV (p.b)),.ls 1 (0+1)] [(0,0,qac l),(1,0,.row 3 1 (0+1) ([]++[iV z]))] (.ls 2 c2.length) 1 [(2,0,zrI c2)]]
  (qam (qaF [(1,5)]) [(1,0,.row 3 1 c2.length (ziV c2))]) (Ai h0 (Ai h1 (Ai (Er (SV.pv (iV rt))) (Ai (Er (SV.ls 0 l.length)) (Ai hin (Ai (Er (SV.pv (iV rt))) (Ai (Er (SV.ls 0 l.length)) (Ai (Er (SV.pv (iV rt))) (Ai (Er (SV.ls 0 l.length)) (Ai (qbR hk) (Ai (Er (SV.pv (iV rt))) (Ai (Er (SV.ls 0 l.length)) (Ai hl (Ai (Eq.refl (List.map (SV.ren (qap [0,1] 3)) [trS 0 rt l,.pv (iV (p.a)),.ls 1 0])) (Ai (qam (qap [0,1] 3) [(0,0,qac l),(1,0,.row 3 1 0 ([]))]) (Ai (Er (SV.pv (iV rt))) (Ai (Er (SV.ls 0 l.length)) (Ai (Er (SV.pv (iV rt))) (Ai (Er (SV.ls 0 l.length)) (Ai hn (Ai (Er (SV.pv (iV rt))) (Ai (Er (SV.ls 0 l.length)) (Ai hin (Ai (Er (SV.pv (iV rt))) (Ai (Er (SV.ls 0 l.length)) (Ai (Er (SV.pv (iV rt))) (Ai (Er (SV.ls 0 l.length)) (Ai (qck hk) (Ai (Er (SV.pv (iV rt))) (Ai (Er (SV.ls 0 l.length)) (Ai hr (Ai (Eq.refl (List.map (SV.ren (qap [0,4] 5)) [trS 0 rt l,.pv (iV (p.b)),.ls 1 (0+1)])) (Ai (qam (qap [0,4] 5) [(0,0,qac l),(1,0,.row 3 1 (0+1) ([]++[iV z]))]) (Ai (Er (SV.pv (iV rt))) (Ai (Er (SV.ls 0 l.length)) (Ai (Er (SV.pv (iV rt))) (Ai (Er (SV.ls 0 l.length)) tI)))))))))))))))))))))))))))))))))))))
theorem qrn {rt z:Int} {l:List Pt} {p:Pt} (h0:decide (z<0)=false) (h1:decide ((0:Int)>(l.length:Int))=false) (hk:l[z.toNat]?=some p) (hin:0≤z∧z<(l.length:Int)) (hl:FnO Try.prog 96 1 2 [trS 0 rt l,.pv (iV (p.a)),.ls 1 0] [(0,0,qac l),(1,0,.row 3 1 0 ([]))] (.ls 1 0) 0 [(1,0,.row 3 1 0 ([]))]) (hn:0+1≤1000000) (hr:FnO Try.prog 96 1 2 [trS 0 rt l,.pv (iV (p.b)),.ls 1 (0+1)] [(0,0,qac l),(1,0,.row 3 1 (0+1) ([]++[iV z]))] (.ls 1 (0+1)) 0 [(1,0,.row 3 1 (0+1) ([]++[iV z]))]) :
 Fn 96 1 [trS 0 rt l,.pv (iV (z)),.pv (.slice none 0 0)] [(0,0,qac l)] (.ls 1 (0+1)) 1 [(1,0,.row 3 1 (0+1) ([]++[iV z]))]:=
 Fz [(1,4)] [.lz true 2 0 3 1,.t false,.t false,.gh [(2,0),(2,1)],.r (iV p.a),.fo 1 [0,1] [trS 0 rt l,.pv (iV (p.a)),.ls 1 0] [(0,0,qac l),(1,0,.row 3 1 0 ([]))] (.ls 1 0) 0 [(1,0,.row 3 1 0 ([]))],.gh [(2,0),(2,1)],.r (iV p.b),.fo 1 [0,4] [trS 0 rt l,.pv (iV (p.b)),.ls 1 (0+1)] [(0,0,qac l),(1,0,.row 3 1 (0+1) ([]++[iV z]))] (.ls 1 (0+1)) 0 [(1,0,.row 3 1 (0+1) ([]++[iV z]))]]
  (qam (qaF [(1,4)]) [(1,0,.row 3 1 (0+1) ([]++[iV z]))]) (Ai h0 (Ai h1 (Ai (Er (SV.pv (iV rt))) (Ai (Er (SV.ls 0 l.length)) (Ai hin (Ai (Er (SV.pv (iV rt))) (Ai (Er (SV.ls 0 l.length)) (Ai (Er (SV.pv (iV rt))) (Ai (Er (SV.ls 0 l.length)) (Ai (qbR hk) (Ai (Er (SV.pv (iV rt))) (Ai (Er (SV.ls 0 l.length)) (Ai hl (Ai (Eq.refl (List.map (SV.ren (qap [0,1] 3)) [trS 0 rt l,.pv (iV (p.a)),.ls 1 0])) (Ai (qam (qap [0,1] 3) [(0,0,qac l),(1,0,.row 3 1 0 ([]))]) (Ai (Er (SV.pv (iV rt))) (Ai (Er (SV.ls 0 l.length)) (Ai (Er (SV.pv (iV rt))) (Ai (Er (SV.ls 0 l.length)) (Ai hn (Ai (Er (SV.pv (iV rt))) (Ai (Er (SV.ls 0 l.length)) (Ai hin (Ai (Er (SV.pv (iV rt))) (Ai (Er (SV.ls 0 l.length)) (Ai (Er (SV.pv (iV rt))) (Ai (Er (SV.ls 0 l.length)) (Ai (qck hk) (Ai (Er (SV.pv (iV rt))) (Ai (Er (SV.ls 0 l.length)) (Ai hr (Ai (Eq.refl (List.map (SV.ren (qap [0,4] 5)) [trS 0 rt l,.pv (iV (p.b)),.ls 1 (0+1)])) (Ai (qam (qap [0,4] 5) [(0,0,qac l),(1,0,.row 3 1 (0+1) ([]++[iV z]))]) (Ai (Er (SV.pv (iV rt))) (Ai (Er (SV.ls 0 l.length)) (Ai (Er (SV.pv (iV rt))) (Ai (Er (SV.ls 0 l.length)) tI)))))))))))))))))))))))))))))))))))))
end Go.Proofs.Ytalnjplghagbpaa

namespace Go.Proofs.Ytalnjplghagbpaa
set_option maxRecDepth 100000
open Go.RowKit
theorem qmn:∀ {l:List Pt} {k:Nat} {p:Pt} (_:l[k]?=some p) (x:Int),qaz (l.set k ⟨p.id,x,p.b⟩)=qdJ (qaz l) (k*3+1) [iV x]
 | [],k,p,h,_=>by simp at h
 | q::r,0,p,h,x=>by simp at h;subst h;rfl
 | q::r,k+1,p,h,x=>by
  rw[List.set_cons_succ,qaz,qmn (l:=r) (k:=k) (p:=p) (by simpa using h) x,show (k+1)*3+1=(k*3+1)+1+1+1 by omega]
  simp[qdJ,qaz,Nat.add_right_comm]
theorem qmY:∀ {l:List Pt} {k:Nat} {p:Pt} (_:l[k]?=some p) (x:Int),qaz (l.set k ⟨p.id,p.a,x⟩)=qdJ (qaz l) (k*3+2) [iV x]
 | [],k,p,h,_=>by simp at h
 | q::r,0,p,h,x=>by simp at h;subst h;rfl
 | q::r,k+1,p,h,x=>by
  rw[List.set_cons_succ,qaz,qmY (l:=r) (k:=k) (p:=p) (by simpa using h) x,show (k+1)*3+2=(k*3+2)+1+1+1 by omega]
  simp[qdJ,qaz,Nat.add_right_comm]
theorem qpn {l:List Pt} {z:Int} {p:Pt} (h:l[z.toNat]?=some p) (x:Int):qaz (l.set z.toNat ⟨p.id,x,p.b⟩)=qdJ (qaz l) (0*3+z.toNat*3+1) [iV x]:=by
 rw[show 0*3+z.toNat*3+1=z.toNat*3+1 by omega];exact qmn h x
theorem qpF {l:List Pt} {z:Int} {p:Pt} (h:l[z.toNat]?=some p) (x:Int):qaz (l.set z.toNat ⟨p.id,p.a,x⟩)=qdJ (qaz l) (0*3+z.toNat*3+2) [iV x]:=by
 rw[show 0*3+z.toNat*3+2=z.toNat*3+2 by omega];exact qmY h x
theorem qfY:∀ l:List Pt,(qaz l).length=l.length*3
 | []=>rfl
 | _::r=>by rw[qaz];simp only[List.length_cons];rw[qfY r];omega
theorem qp1 {l:List Pt} {z:Int} {p:Pt} (h:l[z.toNat]?=some p):0*3+z.toNat*3+1+1≤(qaz l).length:=by
 rw[qfY];have:=qal h;omega
theorem qp5 {l:List Pt} {z:Int} {p:Pt} (h:l[z.toNat]?=some p):0*3+z.toNat*3+2+1≤(qaz l).length:=by
 rw[qfY];have:=qal h;omega
theorem qks {rt z lo hi tn td:Int} {s l:List Pt} {n:Nat} (ht:Fn 110 1 [qav 0 s,.pv (qab tn td),.pv (iV (lo)),.pv (iV (hi))] [(0,0,qag s)] (.pv (iV (z))) 0 []) (h0:decide (z≥0)=false) :
 FnO Try.prog 94 1 2 [qav 0 s,.pv (qab tn td),.ag [.pv (iV rt),.ls 1 n],.pv (iV (lo)),.pv (iV (hi))] [(0,0,qag s),(1,0,.row 26 3 n (qaz l))] (.pv (iV (z))) 0 [(1,0,.row 26 3 n (qaz l))]:=
 qaJ 300 [] [.f [0] [qav 0 s,.pv (qab tn td),.pv (iV (lo)),.pv (iV (hi))] [(0,0,qag s)] (.pv (iV (z))) 0 [],.t false]
  (qam (qaF []) [(1,0,.row 26 3 n (qaz l))]) (Ai ht (Ai (Eq.refl (List.map (SV.ren (qap [0] 5)) [qav 0 s,.pv (qab tn td),.pv (iV (lo)),.pv (iV (hi))])) (Ai (qam (qap [0] 5) [(0,0,qag s)]) (Ai h0 tI)))) (by kernel_rfl)
theorem qlf {rt x y z w1 lo hi tn td:Int} {s l n1 n2:List Pt} {p q:Pt} {n:Nat} (ht:Fn 110 1 [qav 0 s,.pv (qab tn td),.pv (iV (lo)),.pv (iV (hi))] [(0,0,qag s)] (.pv (iV (z))) 0 []) (h0:decide (z≥0)=true) (hl:FnO Try.prog 94 1 2 [qav 0 s,.pv (qab tn td),.ag [.pv (iV rt),.ls 1 n],.pv (iV (lo)),.pv (iV (z))] [(0,0,qag s),(1,0,.row 26 3 n (qaz l))] (.pv (iV (x))) 0 [(1,0,.row 26 3 n (qaz n1))]) (hin:0≤z∧z<(n:Int)) (hp1:n1[z.toNat]?=some p) (hs:iV (IntKind.i64.wrap (z+1))=iV (w1)) (hr:FnO Try.prog 94 1 2 [qav 0 s,.pv (qab tn td),.ag [.pv (iV rt),.ls 1 n],.pv (iV (w1)),.pv (iV (hi))] [(0,0,qag s),(1,0,.row 26 3 n (qaz (n1.set z.toNat ⟨p.id,x,p.b⟩)))] (.pv (iV (y))) 0 [(1,0,.row 26 3 n (qaz n2))]) (hq1:n2[z.toNat]?=some q) :
 FnO Try.prog 94 1 2 [qav 0 s,.pv (qab tn td),.ag [.pv (iV rt),.ls 1 n],.pv (iV (lo)),.pv (iV (hi))] [(0,0,qag s),(1,0,.row 26 3 n (qaz l))] (.pv (iV (z))) 0 [(1,0,.row 26 3 n (qaz (n2.set z.toNat ⟨q.id,q.a,y⟩)))]:=
 qaJ 300 [] [.f [0] [qav 0 s,.pv (qab tn td),.pv (iV (lo)),.pv (iV (hi))] [(0,0,qag s)] (.pv (iV (z))) 0 [],.t true,.gh [(2,0),(3,0),(3,1),(4,0),(4,1)],.fo 1 [0,1] [qav 0 s,.pv (qab tn td),.ag [.pv (iV rt),.ls 1 n],.pv (iV (lo)),.pv (iV (z))] [(0,0,qag s),(1,0,.row 26 3 n (qaz l))] (.pv (iV (x))) 0 [(1,0,.row 26 3 n (qaz n1))],.w (qaz (n1.set z.toNat ⟨p.id,x,p.b⟩)),.gh [(2,0),(3,0),(3,1),(4,0),(4,1)],.r (iV (w1)),.fo 1 [0,1] [qav 0 s,.pv (qab tn td),.ag [.pv (iV rt),.ls 1 n],.pv (iV (w1)),.pv (iV (hi))] [(0,0,qag s),(1,0,.row 26 3 n (qaz (n1.set z.toNat ⟨p.id,x,p.b⟩)))] (.pv (iV (y))) 0 [(1,0,.row 26 3 n (qaz n2))],.w (qaz (n2.set z.toNat ⟨q.id,q.a,y⟩))]
  (qam (qaF []) [(1,0,.row 26 3 n (qaz (n2.set z.toNat ⟨q.id,q.a,y⟩)))]) (Ai ht (Ai (Eq.refl (List.map (SV.ren (qap [0] 5)) [qav 0 s,.pv (qab tn td),.pv (iV (lo)),.pv (iV (hi))])) (Ai (qam (qap [0] 5) [(0,0,qag s)]) (Ai h0 (Ai (Er (SV.ls 0 s.length)) (Ai (Er (SV.pv (iV tn))) (Ai (Er (SV.pv (iV td))) (Ai (Er (SV.pv (iV rt))) (Ai (Er (SV.ls 1 n)) (Ai hl (Ai (Eq.refl (List.map (SV.ren (qap [0,1] 5)) [qav 0 s,.pv (qab tn td),.ag [.pv (iV rt),.ls 1 n],.pv (iV (lo)),.pv (iV (z))])) (Ai (qam (qap [0,1] 5) [(0,0,qag s),(1,0,.row 26 3 n (qaz l))]) (Ai (Er (SV.ls 0 s.length)) (Ai (Er (SV.pv (iV tn))) (Ai (Er (SV.pv (iV td))) (Ai (Er (SV.pv (iV rt))) (Ai (Er (SV.ls 1 n)) (Ai hin (Ai (Er (SV.ls 0 s.length)) (Ai (Er (SV.pv (iV tn))) (Ai (Er (SV.pv (iV td))) (Ai (Er (SV.pv (iV rt))) (Ai (Er (SV.ls 1 n)) (Ai (Er (SV.ls 0 s.length)) (Ai (Er (SV.pv (iV tn))) (Ai (Er (SV.pv (iV td))) (Ai (Er (SV.pv (iV rt))) (Ai (Er (SV.ls 1 n)) (Ai (qpn hp1 x) (Ai (qp1 hp1) (Ai (Er (SV.ls 0 s.length)) (Ai (Er (SV.pv (iV tn))) (Ai (Er (SV.pv (iV td))) (Ai (Er (SV.pv (iV rt))) (Ai (Er (SV.ls 1 n)) (Ai hs (Ai (Er (SV.ls 0 s.length)) (Ai (Er (SV.pv (iV tn))) (Ai (Er (SV.pv (iV td))) (Ai (Er (SV.pv (iV rt))) (Ai (Er (SV.ls 1 n)) (Ai hr (Ai (Eq.refl (List.map (SV.ren (qap [0,1] 5)) [qav 0 s,.pv (qab tn td),.ag [.pv (iV rt),.ls 1 n],.pv (iV (w1)),.pv (iV (hi))])) (Ai (qam (qap [0,1] 5) [(0,0,qag s),(1,0,.row 26 3 n (qaz (n1.set z.toNat ⟨p.id,x,p.b⟩)))]) (Ai (Er (SV.ls 0 s.length)) (Ai (Er (SV.pv (iV tn))) (Ai (Er (SV.pv (iV td))) (Ai (Er (SV.pv (iV rt))) (Ai (Er (SV.ls 1 n)) (Ai hin (Ai (Er (SV.ls 0 s.length)) (Ai (Er (SV.pv (iV tn))) (Ai (Er (SV.pv (iV td))) (Ai (Er (SV.pv (iV rt))) (Ai (Er (SV.ls 1 n)) (Ai (Er (SV.ls 0 s.length)) (Ai (Er (SV.pv (iV tn))) (Ai (Er (SV.pv (iV td))) (Ai (Er (SV.pv (iV rt))) (Ai (Er (SV.ls 1 n)) (Ai (qpF hq1 y) (Ai (qp5 hq1) (Ai (Er (SV.ls 0 s.length)) (Ai (Er (SV.pv (iV tn))) (Ai (Er (SV.pv (iV td))) (Ai (Er (SV.pv (iV rt))) (Ai (Er (SV.ls 1 n)) tI))))))))))))))))))))))))))))))))))))))))))))))))))))))))))))))))))) (by kernel_rfl)
end Go.Proofs.Ytalnjplghagbpaa

namespace Go.Proofs.Ytalnjplghagbpaa
set_option maxRecDepth 100000
open Go.RowKit
theorem qjl:∀ n:Nat,qcg [Value.bool false] n=zbV (List.replicate n false)
 | 0=>rfl
 | n+1=>by rw[qcg,qjl n];rfl
theorem qcC (n:Nat):some (SV.row 4 1 n (qcg [Value.bool false] n))=some (SV.row 4 1 n (zbV (List.replicate n false))):=by rw[qjl]
abbrev qke (bs:List Bool) (g:List Int) (l:List Pt):HpL:=[(3,0,.ls 0 l.length),(3,1,.ls 1 l.length),(3,2,.ls 2 g.length),(1,0,.row 4 1 l.length (zbV bs)),(2,0,.row 3 1 g.length (ziV g)),(0,0,qac l)]
abbrev qmE (bs:List Bool) (g:List Int) (l:List Pt):HpL:=[(3,0,.ls 0 l.length),(3,1,.ls 1 l.length),(3,2,.ls 2 g.length),(1,0,.row 4 1 l.length (zbV bs)),(2,0,.row 3 1 g.length (ziV g))]
theorem qno {z:Int} {l:List Pt} {g:List Int} {bs:List Bool} (h0:(z==(-1))=true) :
 FnO Try.prog 83 1 4 [.pp 3 0,.pv (iV (z))] (qke bs g l) (.pv (.bool true)) 0 (qmE bs g l):=
 qaJ 300 [] [.t true]
  (qam (qaF []) (qmE bs g l)) (Ai h0 tI) (by kernel_rfl)
theorem qn8 {z:Int} {l:List Pt} {g:List Int} {bs:List Bool} (h0:(z==(-1))=false) (h1:decide (z<0)=true) :
 FnO Try.prog 83 1 4 [.pp 3 0,.pv (iV (z))] (qke bs g l) (.pv (.bool false)) 0 (qmE bs g l):=
 qaJ 300 [] [.t false,.t true]
  (qam (qaF []) (qmE bs g l)) (Ai h0 (Ai h1 tI)) (by kernel_rfl)
theorem qoK {z:Int} {l:List Pt} {g:List Int} {bs:List Bool} (h0:(z==(-1))=false) (h1:decide (z<0)=false) (h2:decide (z≥(l.length:Int))=true) :
 FnO Try.prog 83 1 4 [.pp 3 0,.pv (iV (z))] (qke bs g l) (.pv (.bool false)) 0 (qmE bs g l):=
 qaJ 300 [] [.t false,.t false,.t true]
  (qam (qaF []) (qmE bs g l)) (Ai h0 (Ai h1 (Ai h2 tI))) (by kernel_rfl)
theorem ql6 {z:Int} {l:List Pt} {g:List Int} {bs:List Bool} (h0:(z==(-1))=false) (h1:decide (z<0)=false) (h2:decide (z≥(l.length:Int))=false) (hin:0≤z∧z<(l.length:Int)) (hs:bs[z.toNat]?=some true) :
 FnO Try.prog 83 1 4 [.pp 3 0,.pv (iV (z))] (qke bs g l) (.pv (.bool false)) 0 (qmE bs g l):=
 qaJ 300 [] [.t false,.t false,.t false,.r (.bool true)]
  (qam (qaF []) (qmE bs g l)) (Ai h0 (Ai h1 (Ai h2 (Ai hin (Ai (qfU hs) tI))))) (by kernel_rfl)
abbrev qeH (bs:List Bool) (g:List Int) (l:List Pt) (z:Int):HpL:=[(3,0,.ls 0 l.length),(3,1,.ls 1 l.length),(3,2,.ls 2 g.length),(1,0,.row 4 1 l.length (zbV (bs.set z.toNat true))),(2,0,.row 3 1 g.length (ziV g)),(0,0,qac l)]
abbrev qgH (bs1:List Bool) (c1:List Int) (l:List Pt):HpL:=[(3,0,.ls 0 l.length),(3,1,.ls 1 l.length),(3,2,.ls 4 c1.length),(1,0,.row 4 1 l.length (zbV bs1)),(4,0,.row 3 1 c1.length (ziV c1))]
theorem qqK {z:Int} {l:List Pt} {p:Pt} {g c1:List Int} {bs bs1:List Bool} (h0:(z==(-1))=false) (h1:decide (z<0)=false) (h2:decide (z≥(l.length:Int))=false) (hin:0≤z∧z<(l.length:Int)) (hs:bs[z.toNat]?=some false) (hb:z.toNat<bs.length) (hk:l[z.toNat]?=some p) (hl:FnO Try.prog 83 1 4 [.pp 3 0,.pv (iV (p.a))] (qeH bs g l z) (.pv (.bool false)) 1 (qgH bs1 c1 l)) :
 FnO Try.prog 83 1 4 [.pp 3 0,.pv (iV (z))] (qke bs g l) (.pv (.bool false)) 1 (qgH bs1 c1 l):=
 qaJ 300 [] [.t false,.t false,.t false,.r (.bool false),.w (zbV (bs.set z.toNat true)),.r (iV p.a),.fo 1 [0,1,2,3] [.pp 3 0,.pv (iV (p.a))] (qeH bs g l z) (.pv (.bool false)) 1 (qgH bs1 c1 l),.k]
  (qam (qaF []) (qgH bs1 c1 l)) (Ai h0 (Ai h1 (Ai h2 (Ai hin (Ai (qfU hs) (Ai hin (Ai (qo7 bs z.toNat true hb) (Ai (qd1 bs z.toNat hb) (Ai hin (Ai (qbR hk) (Ai hl (Ai (Eq.refl (List.map (SV.ren (qap [0,1,2,3] 4)) [.pp 3 0,.pv (iV (p.a))])) (Ai (qam (qap [0,1,2,3] 4) (qeH bs g l z)) tI))))))))))))) (by kernel_rfl)
abbrev qmv (bs1:List Bool) (g:List Int) (l:List Pt):HpL:=[(3,0,.ls 0 l.length),(3,1,.ls 1 l.length),(3,2,.ls 2 g.length),(1,0,.row 4 1 l.length (zbV bs1)),(2,0,.row 3 1 g.length (ziV g))]
theorem qpG {z:Int} {l:List Pt} {p:Pt} {g:List Int} {bs bs1:List Bool} (h0:(z==(-1))=false) (h1:decide (z<0)=false) (h2:decide (z≥(l.length:Int))=false) (hin:0≤z∧z<(l.length:Int)) (hs:bs[z.toNat]?=some false) (hb:z.toNat<bs.length) (hk:l[z.toNat]?=some p) (hl:FnO Try.prog 83 1 4 [.pp 3 0,.pv (iV (p.a))] (qeH bs g l z) (.pv (.bool false)) 0 (qmv bs1 g l)) :
 FnO Try.prog 83 1 4 [.pp 3 0,.pv (iV (z))] (qke bs g l) (.pv (.bool false)) 0 (qmv bs1 g l):=
 qaJ 300 [] [.t false,.t false,.t false,.r (.bool false),.w (zbV (bs.set z.toNat true)),.r (iV p.a),.fo 1 [0,1,2,3] [.pp 3 0,.pv (iV (p.a))] (qeH bs g l z) (.pv (.bool false)) 0 (qmv bs1 g l),.k]
  (qam (qaF []) (qmv bs1 g l)) (Ai h0 (Ai h1 (Ai h2 (Ai hin (Ai (qfU hs) (Ai hin (Ai (qo7 bs z.toNat true hb) (Ai (qd1 bs z.toNat hb) (Ai hin (Ai (qbR hk) (Ai hl (Ai (Eq.refl (List.map (SV.ren (qap [0,1,2,3] 4)) [.pp 3 0,.pv (iV (p.a))])) (Ai (qam (qap [0,1,2,3] 4) (qeH bs g l z)) tI))))))))))))) (by kernel_rfl)
abbrev qmO (bs2:List Bool) (c2:List Int) (l:List Pt):HpL:=[(3,0,.ls 0 l.length),(3,1,.ls 1 l.length),(3,2,.ls 4 c2.length),(1,0,.row 4 1 l.length (zbV bs2)),(4,0,.row 3 1 c2.length (ziV c2))]
abbrev qhu (bs1:List Bool) (c1:List Int) (l:List Pt) (z:Int):HpL:=[(3,0,.ls 0 l.length),(3,1,.ls 1 l.length),(3,2,.ls 2 (c1.length+1)),(1,0,.row 4 1 l.length (zbV bs1)),(2,0,.row 3 1 (c1.length+1) (ziV c1++[iV z])),(0,0,qac l)]
theorem qpq {z:Int} {l:List Pt} {p:Pt} {g c1 c2:List Int} {w:Bool} {bs bs1 bs2:List Bool} (h0:(z==(-1))=false) (h1:decide (z<0)=false) (h2:decide (z≥(l.length:Int))=false) (hin:0≤z∧z<(l.length:Int)) (hs:bs[z.toNat]?=some false) (hb:z.toNat<bs.length) (hk:l[z.toNat]?=some p) (hl:FnO Try.prog 83 1 4 [.pp 3 0,.pv (iV (p.a))] (qeH bs g l z) (.pv (.bool true)) 1 (qgH bs1 c1 l)) (hn:c1.length+1≤1000000) (hr:FnO Try.prog 83 1 4 [.pp 3 0,.pv (iV (p.b))] (qhu bs1 c1 l z) (.pv (.bool w)) 1 (qmO bs2 c2 l)) :
 FnO Try.prog 83 1 4 [.pp 3 0,.pv (iV (z))] (qke bs g l) (.pv (.bool w)) 1 (qmO bs2 c2 l):=
 qaJ 300 [(4,7)] [.t false,.t false,.t false,.r (.bool false),.w (zbV (bs.set z.toNat true)),.r (iV p.a),.fo 1 [0,1,2,3] [.pp 3 0,.pv (iV (p.a))] (qeH bs g l z) (.pv (.bool true)) 1 (qgH bs1 c1 l),.k,.r (iV p.b),.fo 1 [0,1,6,3] [.pp 3 0,.pv (iV (p.b))] (qhu bs1 c1 l z) (.pv (.bool w)) 1 (qmO bs2 c2 l)]
  (qam (qaF [(4,7)]) (qmO bs2 c2 l)) (Ai h0 (Ai h1 (Ai h2 (Ai hin (Ai (qfU hs) (Ai hin (Ai (qo7 bs z.toNat true hb) (Ai (qd1 bs z.toNat hb) (Ai hin (Ai (qbR hk) (Ai hl (Ai (Eq.refl (List.map (SV.ren (qap [0,1,2,3] 4)) [.pp 3 0,.pv (iV (p.a))])) (Ai (qam (qap [0,1,2,3] 4) (qeH bs g l z)) (Ai hn (Ai hin (Ai (qck hk) (Ai hr (Ai (Eq.refl (List.map (SV.ren (qap [0,1,6,3] 7)) [.pp 3 0,.pv (iV (p.b))])) (Ai (qam (qap [0,1,6,3] 7) (qhu bs1 c1 l z)) tI))))))))))))))))))) (by kernel_rfl)
theorem qqn {z:Int} {l:List Pt} {p:Pt} {g c1:List Int} {w:Bool} {bs bs1 bs2:List Bool} (h0:(z==(-1))=false) (h1:decide (z<0)=false) (h2:decide (z≥(l.length:Int))=false) (hin:0≤z∧z<(l.length:Int)) (hs:bs[z.toNat]?=some false) (hb:z.toNat<bs.length) (hk:l[z.toNat]?=some p) (hl:FnO Try.prog 83 1 4 [.pp 3 0,.pv (iV (p.a))] (qeH bs g l z) (.pv (.bool true)) 1 (qgH bs1 c1 l)) (hn:c1.length+1≤1000000) (hr:FnO Try.prog 83 1 4 [.pp 3 0,.pv (iV (p.b))] (qhu bs1 c1 l z) (.pv (.bool w)) 0 [(3,0,.ls 0 l.length),(3,1,.ls 1 l.length),(3,2,.ls 2 (c1.length+1)),(1,0,.row 4 1 l.length (zbV bs2)),(2,0,.row 3 1 (c1.length+1) (ziV c1++[iV z]))]) :
 FnO Try.prog 83 1 4 [.pp 3 0,.pv (iV (z))] (qke bs g l) (.pv (.bool w)) 1 [(3,0,.ls 0 l.length),(3,1,.ls 1 l.length),(3,2,.ls 4 (c1.length+1)),(1,0,.row 4 1 l.length (zbV bs2)),(4,0,.row 3 1 (c1.length+1) (ziV c1++[iV z]))]:=
 qaJ 300 [(4,6)] [.t false,.t false,.t false,.r (.bool false),.w (zbV (bs.set z.toNat true)),.r (iV p.a),.fo 1 [0,1,2,3] [.pp 3 0,.pv (iV (p.a))] (qeH bs g l z) (.pv (.bool true)) 1 (qgH bs1 c1 l),.k,.r (iV p.b),.fo 1 [0,1,6,3] [.pp 3 0,.pv (iV (p.b))] (qhu bs1 c1 l z) (.pv (.bool w)) 0 [(3,0,.ls 0 l.length),(3,1,.ls 1 l.length),(3,2,.ls 2 (c1.length+1)),(1,0,.row 4 1 l.length (zbV bs2)),(2,0,.row 3 1 (c1.length+1) (ziV c1++[iV z]))]]
  (qam (qaF [(4,6)]) [(3,0,.ls 0 l.length),(3,1,.ls 1 l.length),(3,2,.ls 4 (c1.length+1)),(1,0,.row 4 1 l.length (zbV bs2)),(4,0,.row 3 1 (c1.length+1) (ziV c1++[iV z]))]) (Ai h0 (Ai h1 (Ai h2 (Ai hin (Ai (qfU hs) (Ai hin (Ai (qo7 bs z.toNat true hb) (Ai (qd1 bs z.toNat hb) (Ai hin (Ai (qbR hk) (Ai hl (Ai (Eq.refl (List.map (SV.ren (qap [0,1,2,3] 4)) [.pp 3 0,.pv (iV (p.a))])) (Ai (qam (qap [0,1,2,3] 4) (qeH bs g l z)) (Ai hn (Ai hin (Ai (qck hk) (Ai hr (Ai (Eq.refl (List.map (SV.ren (qap [0,1,6,3] 7)) [.pp 3 0,.pv (iV (p.b))])) (Ai (qam (qap [0,1,6,3] 7) (qhu bs1 c1 l z)) tI))))))))))))))))))) (by kernel_rfl)
abbrev qhP (bs1:List Bool) (g:List Int) (l:List Pt) (z:Int):HpL:=[(3,0,.ls 0 l.length),(3,1,.ls 1 l.length),(3,2,.ls 2 (g.length+1)),(1,0,.row 4 1 l.length (zbV bs1)),(2,0,.row 3 1 (g.length+1) (ziV g++[iV z])),(0,0,qac l)]
theorem qrc {z:Int} {l:List Pt} {p:Pt} {g c2:List Int} {w:Bool} {bs bs1 bs2:List Bool} (h0:(z==(-1))=false) (h1:decide (z<0)=false) (h2:decide (z≥(l.length:Int))=false) (hin:0≤z∧z<(l.length:Int)) (hs:bs[z.toNat]?=some false) (hb:z.toNat<bs.length) (hk:l[z.toNat]?=some p) (hl:FnO Try.prog 83 1 4 [.pp 3 0,.pv (iV (p.a))] (qeH bs g l z) (.pv (.bool true)) 0 (qmv bs1 g l)) (hn:g.length+1≤1000000) (hr:FnO Try.prog 83 1 4 [.pp 3 0,.pv (iV (p.b))] (qhP bs1 g l z) (.pv (.bool w)) 1 (qmO bs2 c2 l)) :
 FnO Try.prog 83 1 4 [.pp 3 0,.pv (iV (z))] (qke bs g l) (.pv (.bool w)) 1 (qmO bs2 c2 l):=
 qaJ 300 [(4,6)] [.t false,.t false,.t false,.r (.bool false),.w (zbV (bs.set z.toNat true)),.r (iV p.a),.fo 1 [0,1,2,3] [.pp 3 0,.pv (iV (p.a))] (qeH bs g l z) (.pv (.bool true)) 0 (qmv bs1 g l),.k,.r (iV p.b),.fo 1 [0,1,5,3] [.pp 3 0,.pv (iV (p.b))] (qhP bs1 g l z) (.pv (.bool w)) 1 (qmO bs2 c2 l)]
  (qam (qaF [(4,6)]) (qmO bs2 c2 l)) (Ai h0 (Ai h1 (Ai h2 (Ai hin (Ai (qfU hs) (Ai hin (Ai (qo7 bs z.toNat true hb) (Ai (qd1 bs z.toNat hb) (Ai hin (Ai (qbR hk) (Ai hl (Ai (Eq.refl (List.map (SV.ren (qap [0,1,2,3] 4)) [.pp 3 0,.pv (iV (p.a))])) (Ai (qam (qap [0,1,2,3] 4) (qeH bs g l z)) (Ai hn (Ai hin (Ai (qck hk) (Ai hr (Ai (Eq.refl (List.map (SV.ren (qap [0,1,5,3] 6)) [.pp 3 0,.pv (iV (p.b))])) (Ai (qam (qap [0,1,5,3] 6) (qhP bs1 g l z)) tI))))))))))))))))))) (by kernel_rfl)
theorem qp8 {z:Int} {l:List Pt} {p:Pt} {g:List Int} {w:Bool} {bs bs1 bs2:List Bool} (h0:(z==(-1))=false) (h1:decide (z<0)=false) (h2:decide (z≥(l.length:Int))=false) (hin:0≤z∧z<(l.length:Int)) (hs:bs[z.toNat]?=some false) (hb:z.toNat<bs.length) (hk:l[z.toNat]?=some p) (hl:FnO Try.prog 83 1 4 [.pp 3 0,.pv (iV (p.a))] (qeH bs g l z) (.pv (.bool true)) 0 (qmv bs1 g l)) (hn:g.length+1≤1000000) (hr:FnO Try.prog 83 1 4 [.pp 3 0,.pv (iV (p.b))] (qhP bs1 g l z) (.pv (.bool w)) 0 [(3,0,.ls 0 l.length),(3,1,.ls 1 l.length),(3,2,.ls 2 (g.length+1)),(1,0,.row 4 1 l.length (zbV bs2)),(2,0,.row 3 1 (g.length+1) (ziV g++[iV z]))]) :
 FnO Try.prog 83 1 4 [.pp 3 0,.pv (iV (z))] (qke bs g l) (.pv (.bool w)) 1 [(3,0,.ls 0 l.length),(3,1,.ls 1 l.length),(3,2,.ls 4 (g.length+1)),(1,0,.row 4 1 l.length (zbV bs2)),(4,0,.row 3 1 (g.length+1) (ziV g++[iV z]))]:=
 qaJ 300 [(4,5)] [.t false,.t false,.t false,.r (.bool false),.w (zbV (bs.set z.toNat true)),.r (iV p.a),.fo 1 [0,1,2,3] [.pp 3 0,.pv (iV (p.a))] (qeH bs g l z) (.pv (.bool true)) 0 (qmv bs1 g l),.k,.r (iV p.b),.fo 1 [0,1,5,3] [.pp 3 0,.pv (iV (p.b))] (qhP bs1 g l z) (.pv (.bool w)) 0 [(3,0,.ls 0 l.length),(3,1,.ls 1 l.length),(3,2,.ls 2 (g.length+1)),(1,0,.row 4 1 l.length (zbV bs2)),(2,0,.row 3 1 (g.length+1) (ziV g++[iV z]))]]
  (qam (qaF [(4,5)]) [(3,0,.ls 0 l.length),(3,1,.ls 1 l.length),(3,2,.ls 4 (g.length+1)),(1,0,.row 4 1 l.length (zbV bs2)),(4,0,.row 3 1 (g.length+1) (ziV g++[iV z]))]) (Ai h0 (Ai h1 (Ai h2 (Ai hin (Ai (qfU hs) (Ai hin (Ai (qo7 bs z.toNat true hb) (Ai (qd1 bs z.toNat hb) (Ai hin (Ai (qbR hk) (Ai hl (Ai (Eq.refl (List.map (SV.ren (qap [0,1,2,3] 4)) [.pp 3 0,.pv (iV (p.a))])) (Ai (qam (qap [0,1,2,3] 4) (qeH bs g l z)) (Ai hn (Ai hin (Ai (qck hk) (Ai hr (Ai (Eq.refl (List.map (SV.ren (qap [0,1,5,3] 6)) [.pp 3 0,.pv (iV (p.b))])) (Ai (qam (qap [0,1,5,3] 6) (qhP bs1 g l z)) tI))))))))))))))))))) (by kernel_rfl)
abbrev qh6 (l:List Pt):HpL:=[(3,0,.ls 0 l.length),(3,1,.ls 1 l.length),(3,2,.ls 2 0),(1,0,.row 4 1 l.length (zbV (List.replicate l.length false))),(2,0,.row 3 1 0 ([])),(0,0,qac l)]
theorem qq3 {rt:Int} {l:List Pt} {c1:List Int} {bs1:List Bool} (m0:0≤(l.length:Int)) (m1:(l.length:Int)≤1000000) (hf:FnO Try.prog 83 1 4 [.pp 3 0,.pv (iV (rt))] (qh6 l) (.pv (.bool false)) 1 (qgH bs1 c1 l)) :
 Fn 45 1 [trS 0 rt l] [(0,0,qac l)] (.tu [.one (.ls 1 c1.length),.one (.pv (.bool false))]) 1 [(1,0,.row 3 1 c1.length (ziV c1))]:=
 Fz [(1,5)] [.md,.lz false 3 2 3 1,.fo 1 [0,2,4,3] [.pp 3 0,.pv (iV (rt))] (qh6 l) (.pv (.bool false)) 1 (qgH bs1 c1 l)]
  (qam (qaF [(1,5)]) [(1,0,.row 3 1 c1.length (ziV c1))]) (Ai m0 (Ai (Eq.refl (l.length:Int)) (Ai m1 (Ai hf (Ai (Eq.refl (List.map (SV.ren (qap [0,2,4,3] 5)) [.pp 3 0,.pv (iV (rt))])) (Ai (Ai (Er (SV.ls 0 l.length)) (Ai (Er (SV.ls 2 l.length)) (Ai (Er (SV.ls 4 0)) (Ai (qcC l.length) (Ai (Er (SV.row 3 1 0 [])) (Ai (Er (qac l)) tI)))))) tI))))))
theorem qjS {rt:Int} {l:List Pt} {c1:List Int} {bs1:List Bool} (m0:0≤(l.length:Int)) (m1:(l.length:Int)≤1000000) (hf:FnO Try.prog 83 1 4 [.pp 3 0,.pv (iV (rt))] (qh6 l) (.pv (.bool true)) 1 (qgH bs1 c1 l)) (he:(((c1.length:Int):Int)==(l.length:Int))=true) :
 Fn 45 1 [trS 0 rt l] [(0,0,qac l)] (.tu [.one (.ls 1 c1.length),.one (.pv (.bool true))]) 1 [(1,0,.row 3 1 c1.length (ziV c1))]:=
 Fz [(1,5)] [.md,.lz false 3 2 3 1,.fo 1 [0,2,4,3] [.pp 3 0,.pv (iV (rt))] (qh6 l) (.pv (.bool true)) 1 (qgH bs1 c1 l),.t true]
  (qam (qaF [(1,5)]) [(1,0,.row 3 1 c1.length (ziV c1))]) (Ai m0 (Ai (Eq.refl (l.length:Int)) (Ai m1 (Ai hf (Ai (Eq.refl (List.map (SV.ren (qap [0,2,4,3] 5)) [.pp 3 0,.pv (iV (rt))])) (Ai (Ai (Er (SV.ls 0 l.length)) (Ai (Er (SV.ls 2 l.length)) (Ai (Er (SV.ls 4 0)) (Ai (qcC l.length) (Ai (Er (SV.row 3 1 0 [])) (Ai (Er (qac l)) tI)))))) (Ai he tI)))))))
theorem qhk {rt:Int} {l:List Pt} {c1:List Int} {bs1:List Bool} (m0:0≤(l.length:Int)) (m1:(l.length:Int)≤1000000) (hf:FnO Try.prog 83 1 4 [.pp 3 0,.pv (iV (rt))] (qh6 l) (.pv (.bool true)) 1 (qgH bs1 c1 l)) (he:(((c1.length:Int):Int)==(l.length:Int))=false) :
 Fn 45 1 [trS 0 rt l] [(0,0,qac l)] (.tu [.one (.ls 1 c1.length),.one (.pv (.bool false))]) 1 [(1,0,.row 3 1 c1.length (ziV c1))]:=
 Fz [(1,5)] [.md,.lz false 3 2 3 1,.fo 1 [0,2,4,3] [.pp 3 0,.pv (iV (rt))] (qh6 l) (.pv (.bool true)) 1 (qgH bs1 c1 l),.t false]
  (qam (qaF [(1,5)]) [(1,0,.row 3 1 c1.length (ziV c1))]) (Ai m0 (Ai (Eq.refl (l.length:Int)) (Ai m1 (Ai hf (Ai (Eq.refl (List.map (SV.ren (qap [0,2,4,3] 5)) [.pp 3 0,.pv (iV (rt))])) (Ai (Ai (Er (SV.ls 0 l.length)) (Ai (Er (SV.ls 2 l.length)) (Ai (Er (SV.ls 4 0)) (Ai (qcC l.length) (Ai (Er (SV.row 3 1 0 [])) (Ai (Er (qac l)) tI)))))) (Ai he tI)))))))
abbrev qpb (bs1:List Bool) (l:List Pt):HpL:=[(3,0,.ls 0 l.length),(3,1,.ls 1 l.length),(3,2,.ls 2 0),(1,0,.row 4 1 l.length (zbV bs1)),(2,0,.row 3 1 0 ([]))]
theorem qqp {rt:Int} {l:List Pt} {bs1:List Bool} (m0:0≤(l.length:Int)) (m1:(l.length:Int)≤1000000) (hf:FnO Try.prog 83 1 4 [.pp 3 0,.pv (iV (rt))] (qh6 l) (.pv (.bool false)) 0 (qpb bs1 l)) :
 Fn 45 1 [trS 0 rt l] [(0,0,qac l)] (.tu [.one (.ls 1 0),.one (.pv (.bool false))]) 1 [(1,0,.row 3 1 0 ([]))]:=
 Fz [(1,4)] [.md,.lz false 3 2 3 1,.fo 1 [0,2,4,3] [.pp 3 0,.pv (iV (rt))] (qh6 l) (.pv (.bool false)) 0 (qpb bs1 l)]
  (qam (qaF [(1,4)]) [(1,0,.row 3 1 0 ([]))]) (Ai m0 (Ai (Eq.refl (l.length:Int)) (Ai m1 (Ai hf (Ai (Eq.refl (List.map (SV.ren (qap [0,2,4,3] 5)) [.pp 3 0,.pv (iV (rt))])) (Ai (Ai (Er (SV.ls 0 l.length)) (Ai (Er (SV.ls 2 l.length)) (Ai (Er (SV.ls 4 0)) (Ai (qcC l.length) (Ai (Er (SV.row 3 1 0 [])) (Ai (Er (qac l)) tI)))))) tI))))))
theorem qjd {rt:Int} {l:List Pt} {bs1:List Bool} (m0:0≤(l.length:Int)) (m1:(l.length:Int)≤1000000) (hf:FnO Try.prog 83 1 4 [.pp 3 0,.pv (iV (rt))] (qh6 l) (.pv (.bool true)) 0 (qpb bs1 l)) (he:((0:Int)==(l.length:Int))=true) :
 Fn 45 1 [trS 0 rt l] [(0,0,qac l)] (.tu [.one (.ls 1 0),.one (.pv (.bool true))]) 1 [(1,0,.row 3 1 0 ([]))]:=
 Fz [(1,4)] [.md,.lz false 3 2 3 1,.fo 1 [0,2,4,3] [.pp 3 0,.pv (iV (rt))] (qh6 l) (.pv (.bool true)) 0 (qpb bs1 l),.t true]
  (qam (qaF [(1,4)]) [(1,0,.row 3 1 0 ([]))]) (Ai m0 (Ai (Eq.refl (l.length:Int)) (Ai m1 (Ai hf (Ai (Eq.refl (List.map (SV.ren (qap [0,2,4,3] 5)) [.pp 3 0,.pv (iV (rt))])) (Ai (Ai (Er (SV.ls 0 l.length)) (Ai (Er (SV.ls 2 l.length)) (Ai (Er (SV.ls 4 0)) (Ai (qcC l.length) (Ai (Er (SV.row 3 1 0 [])) (Ai (Er (qac l)) tI)))))) (Ai he tI)))))))
theorem qhn {rt:Int} {l:List Pt} {bs1:List Bool} (m0:0≤(l.length:Int)) (m1:(l.length:Int)≤1000000) (hf:FnO Try.prog 83 1 4 [.pp 3 0,.pv (iV (rt))] (qh6 l) (.pv (.bool true)) 0 (qpb bs1 l)) (he:((0:Int)==(l.length:Int))=false) :
 Fn 45 1 [trS 0 rt l] [(0,0,qac l)] (.tu [.one (.ls 1 0),.one (.pv (.bool false))]) 1 [(1,0,.row 3 1 0 ([]))]:=
 Fz [(1,4)] [.md,.lz false 3 2 3 1,.fo 1 [0,2,4,3] [.pp 3 0,.pv (iV (rt))] (qh6 l) (.pv (.bool true)) 0 (qpb bs1 l),.t false]
  (qam (qaF [(1,4)]) [(1,0,.row 3 1 0 ([]))]) (Ai m0 (Ai (Eq.refl (l.length:Int)) (Ai m1 (Ai hf (Ai (Eq.refl (List.map (SV.ren (qap [0,2,4,3] 5)) [.pp 3 0,.pv (iV (rt))])) (Ai (Ai (Er (SV.ls 0 l.length)) (Ai (Er (SV.ls 2 l.length)) (Ai (Er (SV.ls 4 0)) (Ai (qcC l.length) (Ai (Er (SV.row 3 1 0 [])) (Ai (Er (qac l)) tI)))))) (Ai he tI)))))))
abbrev qkf (l:List Pt) (n:Nat) (s:List Pt):HpL:=[(0,0,qag s),(1,0,.row 26 3 n (qaz l))]
theorem qs5 {z v tn td:Int} {s l:List Pt} {n:Nat} (h0:(z==(-1))=true) :
 FnO Try.prog 62 1 2 [.ag [.ls 1 n,.ls 0 s.length,.pv (iV tn),.pv (iV td)],.pv (iV (z)),.pv (iV (v))] (qkf l n s) (.pv (iV (v))) 0 [(1,0,.row 26 3 n (qaz l))]:=
 qaJ 300 [] [.t true]
  (qam (qaF []) [(1,0,.row 26 3 n (qaz l))]) (Ai h0 tI) (by kernel_rfl)
theorem qtb {z v tn td:Int} {s l:List Pt} {n:Nat} (h0:(z==(-1))=false) (h1:(v==(-1))=true) :
 FnO Try.prog 62 1 2 [.ag [.ls 1 n,.ls 0 s.length,.pv (iV tn),.pv (iV td)],.pv (iV (z)),.pv (iV (v))] (qkf l n s) (.pv (iV (z))) 0 [(1,0,.row 26 3 n (qaz l))]:=
 qaJ 300 [] [.t false,.t true]
  (qam (qaF []) [(1,0,.row 26 3 n (qaz l))]) (Ai h0 (Ai h1 tI)) (by kernel_rfl)
theorem qr3 {x z v tn td:Int} {s l n1:List Pt} {p:Pt} {n:Nat} {p1 q1 p2:Pt} (h0:(z==(-1))=false) (h1:(v==(-1))=false) (hin:0≤z∧z<(n:Int)) (hjn:0≤v∧v<(n:Int)) (hpn:0≤z∧z<(s.length:Int)) (hqn:0≤v∧v<(s.length:Int)) (hp:s[z.toNat]?=some p1) (hq:s[v.toNat]?=some q1) (hw:Pure Try.prog 79 #[ptV p1,ptV q1,qab tn td] (.tuple #[.bool true,iV 0])) (hk:l[z.toNat]?=some p) (hl:FnO Try.prog 62 1 2 [.ag [.ls 1 n,.ls 0 s.length,.pv (iV tn),.pv (iV td)],.pv (iV (p.b)),.pv (iV (v))] (qkf l n s) (.pv (iV (x))) 0 [(1,0,.row 26 3 n (qaz n1))]) (hs:n1[z.toNat]?=some p2) :
 FnO Try.prog 62 1 2 [.ag [.ls 1 n,.ls 0 s.length,.pv (iV tn),.pv (iV td)],.pv (iV (z)),.pv (iV (v))] (qkf l n s) (.pv (iV (z))) 0 [(1,0,.row 26 3 n (qaz (n1.set z.toNat ⟨p2.id,p2.a,x⟩)))]:=
 qaJ 300 [] [.t false,.t false,.r (ptV p1),.r (ptV q1),.r (.tuple #[.bool true,iV 0]),.gh [(2,0),(2,1),(2,2),(2,3)],.r (iV p.b),.fo 1 [0,1] [.ag [.ls 1 n,.ls 0 s.length,.pv (iV tn),.pv (iV td)],.pv (iV (p.b)),.pv (iV (v))] (qkf l n s) (.pv (iV (x))) 0 [(1,0,.row 26 3 n (qaz n1))],.w (qaz (n1.set z.toNat ⟨p2.id,p2.a,x⟩))]
  (qam (qaF []) [(1,0,.row 26 3 n (qaz (n1.set z.toNat ⟨p2.id,p2.a,x⟩)))]) (Ai h0 (Ai h1 (Ai hpn (Ai (qbe hp) (Ai hqn (Ai (qbe hq) (Ai hw (Ai (Er (SV.ls 1 n)) (Ai (Er (SV.ls 0 s.length)) (Ai (Er (SV.pv (iV tn))) (Ai (Er (SV.pv (iV td))) (Ai hin (Ai (Er (SV.ls 1 n)) (Ai (Er (SV.ls 0 s.length)) (Ai (Er (SV.pv (iV tn))) (Ai (Er (SV.pv (iV td))) (Ai (Er (SV.ls 1 n)) (Ai (Er (SV.ls 0 s.length)) (Ai (Er (SV.pv (iV tn))) (Ai (Er (SV.pv (iV td))) (Ai (qck hk) (Ai (Er (SV.ls 1 n)) (Ai (Er (SV.ls 0 s.length)) (Ai (Er (SV.pv (iV tn))) (Ai (Er (SV.pv (iV td))) (Ai hl (Ai (Eq.refl (List.map (SV.ren (qap [0,1] 3)) [.ag [.ls 1 n,.ls 0 s.length,.pv (iV tn),.pv (iV td)],.pv (iV (p.b)),.pv (iV (v))])) (Ai (qam (qap [0,1] 3) (qkf l n s)) (Ai (Er (SV.ls 1 n)) (Ai (Er (SV.ls 0 s.length)) (Ai (Er (SV.pv (iV tn))) (Ai (Er (SV.pv (iV td))) (Ai hin (Ai (Er (SV.ls 1 n)) (Ai (Er (SV.ls 0 s.length)) (Ai (Er (SV.pv (iV tn))) (Ai (Er (SV.pv (iV td))) (Ai (Er (SV.ls 1 n)) (Ai (Er (SV.ls 0 s.length)) (Ai (Er (SV.pv (iV tn))) (Ai (Er (SV.pv (iV td))) (Ai (qpF hs x) (Ai (qp5 hs) (Ai (Er (SV.ls 1 n)) (Ai (Er (SV.ls 0 s.length)) (Ai (Er (SV.pv (iV tn))) (Ai (Er (SV.pv (iV td))) tI))))))))))))))))))))))))))))))))))))))))))))))) (by kernel_rfl)
theorem qs1 {x z v tn td:Int} {s l n1:List Pt} {q:Pt} {n:Nat} {p1 q1 p2:Pt} (h0:(z==(-1))=false) (h1:(v==(-1))=false) (hin:0≤z∧z<(n:Int)) (hjn:0≤v∧v<(n:Int)) (hpn:0≤z∧z<(s.length:Int)) (hqn:0≤v∧v<(s.length:Int)) (hp:s[z.toNat]?=some p1) (hq:s[v.toNat]?=some q1) (hw:Pure Try.prog 79 #[ptV p1,ptV q1,qab tn td] (.tuple #[.bool false,iV 0])) (hk:l[v.toNat]?=some q) (hl:FnO Try.prog 62 1 2 [.ag [.ls 1 n,.ls 0 s.length,.pv (iV tn),.pv (iV td)],.pv (iV (z)),.pv (iV (q.a))] (qkf l n s) (.pv (iV (x))) 0 [(1,0,.row 26 3 n (qaz n1))]) (hs:n1[v.toNat]?=some p2) :
 FnO Try.prog 62 1 2 [.ag [.ls 1 n,.ls 0 s.length,.pv (iV tn),.pv (iV td)],.pv (iV (z)),.pv (iV (v))] (qkf l n s) (.pv (iV (v))) 0 [(1,0,.row 26 3 n (qaz (n1.set v.toNat ⟨p2.id,x,p2.b⟩)))]:=
 qaJ 300 [] [.t false,.t false,.r (ptV p1),.r (ptV q1),.r (.tuple #[.bool false,iV 0]),.gh [(2,0),(2,1),(2,2),(2,3)],.r (iV q.a),.fo 1 [0,1] [.ag [.ls 1 n,.ls 0 s.length,.pv (iV tn),.pv (iV td)],.pv (iV (z)),.pv (iV (q.a))] (qkf l n s) (.pv (iV (x))) 0 [(1,0,.row 26 3 n (qaz n1))],.w (qaz (n1.set v.toNat ⟨p2.id,x,p2.b⟩))]
  (qam (qaF []) [(1,0,.row 26 3 n (qaz (n1.set v.toNat ⟨p2.id,x,p2.b⟩)))]) (Ai h0 (Ai h1 (Ai hpn (Ai (qbe hp) (Ai hqn (Ai (qbe hq) (Ai hw (Ai (Er (SV.ls 1 n)) (Ai (Er (SV.ls 0 s.length)) (Ai (Er (SV.pv (iV tn))) (Ai (Er (SV.pv (iV td))) (Ai hjn (Ai (Er (SV.ls 1 n)) (Ai (Er (SV.ls 0 s.length)) (Ai (Er (SV.pv (iV tn))) (Ai (Er (SV.pv (iV td))) (Ai (Er (SV.ls 1 n)) (Ai (Er (SV.ls 0 s.length)) (Ai (Er (SV.pv (iV tn))) (Ai (Er (SV.pv (iV td))) (Ai (qbR hk) (Ai (Er (SV.ls 1 n)) (Ai (Er (SV.ls 0 s.length)) (Ai (Er (SV.pv (iV tn))) (Ai (Er (SV.pv (iV td))) (Ai hl (Ai (Eq.refl (List.map (SV.ren (qap [0,1] 3)) [.ag [.ls 1 n,.ls 0 s.length,.pv (iV tn),.pv (iV td)],.pv (iV (z)),.pv (iV (q.a))])) (Ai (qam (qap [0,1] 3) (qkf l n s)) (Ai (Er (SV.ls 1 n)) (Ai (Er (SV.ls 0 s.length)) (Ai (Er (SV.pv (iV tn))) (Ai (Er (SV.pv (iV td))) (Ai hjn (Ai (Er (SV.ls 1 n)) (Ai (Er (SV.ls 0 s.length)) (Ai (Er (SV.pv (iV tn))) (Ai (Er (SV.pv (iV td))) (Ai (Er (SV.ls 1 n)) (Ai (Er (SV.ls 0 s.length)) (Ai (Er (SV.pv (iV tn))) (Ai (Er (SV.pv (iV td))) (Ai (qpn hs x) (Ai (qp1 hs) (Ai (Er (SV.ls 1 n)) (Ai (Er (SV.ls 0 s.length)) (Ai (Er (SV.pv (iV tn))) (Ai (Er (SV.pv (iV td))) tI))))))))))))))))))))))))))))))))))))))))))))))) (by kernel_rfl)
end Go.Proofs.Ytalnjplghagbpaa

namespace Go.Proofs.Ytalnjplghagbpaa
set_option maxRecDepth 100000
open Go.RowKit
theorem qls {l:List Pt} (h:decide ((l.length:Int)>64)=true) :
 Fn 61 1 [.ls 0 l.length] [(0,0,qac l)] (.pv (iV (4))) 0 []:=
 Fz [] [.t true]
  tI (Ai h tI)
theorem qiy {l:List Pt} (h:decide ((l.length:Int)>64)=false) :
 Fn 61 1 [.ls 0 l.length] [(0,0,qac l)] (.pv (iV (0))) 0 []:=
 Fz [] [.t false]
  tI (Ai h tI)
abbrev qrF (g:List Int) (k:Nat) (l:List Pt) (y:Int):TmL:=[(0,.ls 0 l.length),(5,.pv (iV (y))),(9,.ls 1 g.length),(10,.pv (iV (g.length:Int))),(11,.pv (iV (k:Int)))]
theorem qqG {y z:Int} {l:List Pt} {p:Pt} {g:List Int} {k:Nat} (hlt:decide ((k:Int)<(g.length:Int))=true) (hin:0≤(k:Int)∧(k:Int)<(g.length:Int)) (hg:g[k]?=some z) (hzi:0≤z∧z<(l.length:Int)) (hp:l[z.toNat]?=some p) (h1:decide (p.id≤y)=true):Rl 2 2 63 0 29 2 (qrF g k l y) ([(0,0,qac l),(1,0,zrI g)]) (.ret) ([(4,.pv (.bool false))]) ([]):=
 RunsL.stop [] 300 [.t true,.r (iV z),.r (iV p.id),.t true] (fun h=>by cases h)
  (Ro (Ai hlt (Ai hin (Ai (qfu hg) (Ai hzi (Ai (qaH hp) (Ai h1 tI)))))))
theorem qq0 {y z:Int} {l:List Pt} {p:Pt} {g:List Int} {k:Nat} (hlt:decide ((k:Int)<(g.length:Int))=true) (hin:0≤(k:Int)∧(k:Int)<(g.length:Int)) (hg:g[k]?=some z) (hzi:0≤z∧z<(l.length:Int)) (hp:l[z.toNat]?=some p) (h1:decide (p.id≤y)=false) (h2:decide (p.id>65535)=true):Rl 2 2 63 0 29 2 (qrF g k l y) ([(0,0,qac l),(1,0,zrI g)]) (.ret) ([(4,.pv (.bool false))]) ([]):=
 RunsL.stop [] 300 [.t true,.r (iV z),.r (iV p.id),.t false,.t true] (fun h=>by cases h)
  (Ro (Ai hlt (Ai hin (Ai (qfu hg) (Ai hzi (Ai (qaH hp) (Ai h1 (Ai h2 tI))))))))
theorem ql7 {y z:Int} {l:List Pt} {p:Pt} {g:List Int} {k:Nat} (hlt:decide ((k:Int)<(g.length:Int))=true) (hin:0≤(k:Int)∧(k:Int)<(g.length:Int)) (hg:g[k]?=some z) (hzi:0≤z∧z<(l.length:Int)) (hp:l[z.toNat]?=some p) (h1:decide (p.id≤y)=false) (h2:decide (p.id>65535)=false) (hs:iV (IntKind.i64.wrap ((k:Int)+1))=iV (((k+1:Nat):Int))) {e:Exit} {tm2:TmL} {hp2:HpL}
 (r:Rl 2 2 63 0 29 2 ([(0,.ls 0 l.length),(5,.pv (iV (p.id))),(9,.ls 1 g.length),(10,.pv (iV (g.length:Int))),(11,.pv (iV ((k+1:Nat):Int)))]) ([(0,0,qac l),(1,0,zrI g)]) e tm2 hp2):Rl 2 2 63 0 29 2 (qrF g k l y) ([(0,0,qac l),(1,0,zrI g)]) e tm2 hp2:=
 RunsL.next [] 300 [.t true,.r (iV z),.r (iV p.id),.t false,.t false,Re hs]
  (Ro (Ai hlt (Ai hin (Ai (qfu hg) (Ai hzi (Ai (qaH hp) (Ai h1 (Ai h2 (Ai hs tI))))))))) r
theorem qoT {y:Int} {l:List Pt} {g:List Int} {k:Nat} (hlt:decide ((k:Int)<(g.length:Int))=false):Rl 2 2 63 0 29 2 (qrF g k l y) ([(0,0,qac l),(1,0,zrI g)]) (.exit 0) ([]) ([]):=
 RunsL.stop [] 300 [.t false] (fun h=>by cases h)
  (Ro (Ai hlt tI))
abbrev qtB (g:List Int) (l:List Pt):TmL:=[(0,.ls 0 l.length),(5,.pv (iV (-1))),(9,.ls 1 g.length),(10,.pv (iV (g.length:Int))),(11,.pv (iV ((0:Nat):Int)))]
theorem qpm {l:List Pt} {g:List Int} (r0:Rl 2 2 63 0 29 2 (qtB g l) ([(0,0,qac l),(1,0,zrI g)]) (.ret) ([(4,.pv (.bool false))]) ([])) :
 Fn 63 2 [.ls 0 l.length,.ls 1 g.length] [(0,0,qac l),(1,0,zrI g)] (.pv (.bool false)) 0 []:=
 Fz [] [Lf r0]
  tI (Lo r0 [] tI)
theorem qoh {l:List Pt} {g:List Int} (r0:Rl 2 2 63 0 29 2 (qtB g l) ([(0,0,qac l),(1,0,zrI g)]) (.exit 0) ([]) ([])) :
 Fn 63 2 [.ls 0 l.length,.ls 1 g.length] [(0,0,qac l),(1,0,zrI g)] (.pv (.bool true)) 0 []:=
 Fz [] [Lf r0]
  tI (Lo r0 [] tI)
abbrev qsD (k:Nat) (l:List Pt) (m:List Pt):TmL:=[(0,.ls 0 l.length),(1,.ls 1 m.length),(12,.pv (iV (l.length:Int))),(13,.pv (iV (k:Int)))]
theorem qkv {l m:List Pt} {p q:Pt} {k:Nat} (hlt:decide ((k:Int)<(l.length:Int))=true) (hk:l[k]?=some p) (hin:0≤(k:Int)∧(k:Int)<(l.length:Int)) (hm:m[k]?=some q) (hin2:0≤(k:Int)∧(k:Int)<(m.length:Int)) (hne:(!((p.id==q.id)&&((p.a==q.a)&&((p.b==q.b)&&true))))=false) (hs:iV (IntKind.i64.wrap ((k:Int)+1))=iV (((k+1:Nat):Int))) {e:Exit} {tm2:TmL} {hp2:HpL}
 (r:Rl 2 2 87 0 26 2 ([(0,.ls 0 l.length),(1,.ls 1 m.length),(12,.pv (iV (l.length:Int))),(13,.pv (iV ((k+1:Nat):Int)))]) ([(0,0,qac l),(1,0,qac m)]) e tm2 hp2):Rl 2 2 87 0 26 2 (qsD k l m) ([(0,0,qac l),(1,0,qac m)]) e tm2 hp2:=
 RunsL.next [] 300 [.t true,.r (ptV p),.r (ptV q),.t false,Re hs]
  (Ro (Ai hlt (Ai hin (Ai (qaY hk) (Ai hin2 (Ai (qaY hm) (Ai hne (Ai hs tI)))))))) r
theorem qoR {l m:List Pt} {p q:Pt} {k:Nat} (hlt:decide ((k:Int)<(l.length:Int))=true) (hk:l[k]?=some p) (hin:0≤(k:Int)∧(k:Int)<(l.length:Int)) (hm:m[k]?=some q) (hin2:0≤(k:Int)∧(k:Int)<(m.length:Int)) (hne:(!((p.id==q.id)&&((p.a==q.a)&&((p.b==q.b)&&true))))=true):Rl 2 2 87 0 26 2 (qsD k l m) ([(0,0,qac l),(1,0,qac m)]) (.ret) ([(4,.pv (.bool false))]) ([]):=
 RunsL.stop [] 300 [.t true,.r (ptV p),.r (ptV q),.t true] (fun h=>by cases h)
  (Ro (Ai hlt (Ai hin (Ai (qaY hk) (Ai hin2 (Ai (qaY hm) (Ai hne tI)))))))
theorem qnx {l m:List Pt} {k:Nat} (hlt:decide ((k:Int)<(l.length:Int))=false):Rl 2 2 87 0 26 2 (qsD k l m) ([(0,0,qac l),(1,0,qac m)]) (.exit 0) ([]) ([]):=
 RunsL.stop [] 300 [.t false] (fun h=>by cases h)
  (Ro (Ai hlt tI))
theorem qoF {l m:List Pt} (hl:((l.length:Int) !=(m.length:Int))=true) :
 Fn 87 2 [.ls 0 l.length,.ls 1 m.length] [(0,0,qac l),(1,0,qac m)] (.pv (.bool false)) 0 []:=
 Fz [] [.t true]
  tI (Ai hl tI)
theorem qqo {l m:List Pt} (hl:((l.length:Int) !=(m.length:Int))=false) (r0:Rl 2 2 87 0 26 2 ([(0,.ls 0 l.length),(1,.ls 1 m.length),(12,.pv (iV (l.length:Int))),(13,.pv (iV ((0:Nat):Int)))]) ([(0,0,qac l),(1,0,qac m)]) (.ret) ([(4,.pv (.bool false))]) ([])) :
 Fn 87 2 [.ls 0 l.length,.ls 1 m.length] [(0,0,qac l),(1,0,qac m)] (.pv (.bool false)) 0 []:=
 Fz [] [.t false,Lf r0]
  tI (Ai hl (Lo r0 [] tI))
theorem qoD {l m:List Pt} (hl:((l.length:Int) !=(m.length:Int))=false) (r0:Rl 2 2 87 0 26 2 ([(0,.ls 0 l.length),(1,.ls 1 m.length),(12,.pv (iV (l.length:Int))),(13,.pv (iV ((0:Nat):Int)))]) ([(0,0,qac l),(1,0,qac m)]) (.exit 0) ([]) ([])) :
 Fn 87 2 [.ls 0 l.length,.ls 1 m.length] [(0,0,qac l),(1,0,qac m)] (.pv (.bool true)) 0 []:=
 Fz [] [.t false,Lf r0]
  tI (Ai hl (Lo r0 [] tI))
theorem qkW {rt x:Int} {l m:List Pt} (hr:(rt==x)=false) :
 Fn 49 2 [trS 0 rt l,trS 1 x m] [(0,0,qac l),(1,0,qac m)] (.pv (.bool false)) 0 []:=
 Fz [] [.t false]
  tI (Ai hr tI)
theorem qqP {rt x:Int} {l m:List Pt} {w:Bool} (hr:(rt==x)=true) (hq:Fn 87 2 [.ls 0 l.length,.ls 1 m.length] [(0,0,qac l),(1,0,qac m)] (.pv (.bool w)) 0 []) :
 Fn 49 2 [trS 0 rt l,trS 1 x m] [(0,0,qac l),(1,0,qac m)] (.pv (.bool w)) 0 []:=
 Fz [] [.t true,Cf hq [0,1]]
  tI (Ai hr (Co hq [0,1] 4 tI))
end Go.Proofs.Ytalnjplghagbpaa
