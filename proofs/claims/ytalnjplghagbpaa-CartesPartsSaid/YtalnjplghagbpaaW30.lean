/-
  Joined: Uk, Ul, Da, Db, Ea. Conditions: none.
-/
import Derived.Test.YtalnjplghagbpaaW29
import Derived.Test.YtalnjplghagbpaaW19
import Derived.Test.YtalnjplghagbpaaSxJ
namespace Go.Proofs.Ytalnjplghagbpaa
set_option maxRecDepth 100000
open Go.RowKit
def cK (l:List Pt) (k v:Nat):Nat:=((List.range k).map fun u=>lk l u v).sum
theorem qlb (l:List Pt) (k v:Nat):cK l (k+1) v=cK l k v+lk l k v:=by
 unfold cK
 rw[List.range_succ,List.map_append,List.sum_append]
 simp
theorem qs6 (l:List Pt) (u:Nat) (v:Int):lk l u v≤2:=by
 unfold lk
 split
 ·split<;>split<;>omega
 ·omega
theorem qtX (l:List Pt) (v:Nat):∀ k,cK l k v≤2*k
 | 0=>Nat.le_refl _
 | k+1=>by rw[qlb];have:=qtX l v k;have:=qs6 l k v;omega
def gK (l:List Pt) (k:Nat):List Int:=(List.range l.length).map fun v=>(cK l k v:Int)
theorem qf7 (l:List Pt) (k:Nat):(gK l k).length=l.length:=by unfold gK;rw[List.length_map,List.length_range]
theorem qfd (l:List Pt) (k:Nat) {v:Nat} (h:v<l.length):(gK l k)[v]?=some (cK l k v:Int):=by
 unfold gK;rw[List.getElem?_map,List.getElem?_range h];rfl
theorem qqq (l:List Pt):gK l 0=List.replicate l.length 0:=by
 refine List.ext_getElem? fun v=>?_
 rcases Nat.lt_or_ge v l.length with h | h
 ·rw[qfd l 0 h,List.getElem?_replicate,if_pos h];rfl
 ·rw[List.getElem?_eq_none (by rw[qf7];exact h),List.getElem?_eq_none (by rw[List.length_replicate];exact h)]
def qe4 (g:List Int) (z:Int):List Int:=if 0≤z then g.set z.toNat (g.getD z.toNat 0+1) else g
theorem qeQ (g:List Int) (z:Int):(qe4 g z).length=g.length:=by unfold qe4;split<;>simp
theorem qgk {g:List Int} {z:Int} {v:Nat} (h:v<g.length):(qe4 g z)[v]?=some (g.getD v 0+if z=(v:Int) then 1 else 0):=by
 have e:g[v]?=some (g.getD v 0):=by rw[List.getD_eq_getElem?_getD,List.getElem?_eq_getElem h];rfl
 unfold qe4
 by_cases hz:0≤z
 ·rw[if_pos hz,List.getElem?_set]
  by_cases ev:z.toNat=v
  ·rw[if_pos ev,if_pos (by omega),if_pos (by omega),ev]
  ·rw[if_neg ev,if_neg (by omega),e];simp
 ·rw[if_neg hz,if_neg (by omega),e];simp
theorem qpc {l:List Pt} {k:Nat} {p:Pt} (hp:l[k]?=some p):gK l (k+1)=qe4 (qe4 (gK l k) p.a) p.b:=by
 refine List.ext_getElem? fun v=>?_
 rcases Nat.lt_or_ge v l.length with h | h
 ·have h1:v<(gK l k).length:=by rw[qf7];exact h
  have h2:v<(qe4 (gK l k) p.a).length:=by rw[qeQ];exact h1
  rw[qfd l (k+1) h,qgk h2,List.getD_eq_getElem?_getD,qgk h1,List.getD_eq_getElem?_getD,qfd l k h,qlb]
  have e:lk l k v=(if p.a=(v:Int) then 1 else 0)+(if p.b=(v:Int) then 1 else 0):=by unfold lk;rw[hp]
  rw[e]
  simp only[Option.getD_some]
  split<;>split<;>simp<;>omega
 ·rw[List.getElem?_eq_none (by rw[qf7];exact h),List.getElem?_eq_none (by rw[qeQ,qeQ,qf7];exact h)]
section
variable {rt:Int} {l:List Pt}
abbrev onT (n k:Nat):List (Nat×SV):=[(1,.pp 1 0),(3,.ls 2 n),(4,.pv (iV (k:Int)))]
abbrev qvo (n k:Nat):List (Nat×SV):=[(1,.pp 1 0),(3,.ls 2 n),(7,.pv (iV (k:Int)))]
abbrev onH (rt:Int) (l:List Pt) (g:List Int):List (Nat×Nat×SV):=[(1,0,.pv (iV rt)),(1,1,.ls 0 l.length),(0,0,qac l),(2,0,.row 3 1 l.length (ziV g))]
theorem qmY (hL:Lnk ⟨rt,l⟩) (hn:l.length≤1000000) {k:Nat} {p:Pt} (hp:l[k]?=some p) {e:Exit} {tm2:TmL} {hp2:HpL}
 (r:Rl 1 1 71 0 77 3 (onT l.length (k+1)) (onH rt l (gK l (k+1))) e tm2 hp2):Rl 1 1 71 0 77 3 (onT l.length k) (onH rt l (gK l k)) e tm2 hp2:=by
 have hkl:=qai hp
 obtain⟨⟨a1,a2⟩,b1,b2⟩:=hL p (List.mem_of_getElem? hp)
 have a2':p.a<(l.length:Int):=a2
 have b2':p.b<(l.length:Int):=b2
 have hin:0≤(k:Int)∧(k:Int)<(l.length:Int):=⟨by omega,by omega⟩
 have gl:=qf7 l k
 have bnd:∀ v,cK l k v≤2000000:=fun v=>by have:=qtX l v k;omega
 rw[qpc hp] at r
 have gd:∀ v,v<l.length→(gK l k).getD v 0=(cK l k v:Int):=fun v hv=>by rw[List.getD_eq_getElem?_getD,qfd l k hv];rfl
 by_cases ha:0≤p.a
 ·have hal:p.a.toNat<l.length:=by omega
  have ea:qe4 (gK l k) p.a=(gK l k).set p.a.toNat ((cK l k p.a.toNat:Int)+1):=by unfold qe4;rw[if_pos ha,gd _ hal]
  by_cases hb:0≤p.b
  ·have hbl:p.b.toNat<l.length:=by omega
   have h2:p.b.toNat<((gK l k).set p.a.toNat ((cK l k p.a.toNat:Int)+1)).length:=by rw[List.length_set,gl];exact hbl
   have hv2:(((gK l k).set p.a.toNat ((cK l k p.a.toNat:Int)+1)))[p.b.toNat]?=some (((gK l k).set p.a.toNat ((cK l k p.a.toNat:Int)+1)).getD p.b.toNat 0):=by rw[List.getD_eq_getElem?_getD,List.getElem?_eq_getElem h2];rfl
   have eb:qe4 ((gK l k).set p.a.toNat ((cK l k p.a.toNat:Int)+1)) p.b=((gK l k).set p.a.toNat ((cK l k p.a.toNat:Int)+1)).set p.b.toNat (((gK l k).set p.a.toNat ((cK l k p.a.toNat:Int)+1)).getD p.b.toNat 0+1):=by
    unfold qe4;rw[if_pos hb]
   have small : -1≤((gK l k).set p.a.toNat ((cK l k p.a.toNat:Int)+1)).getD p.b.toNat 0∧((gK l k).set p.a.toNat ((cK l k p.a.toNat:Int)+1)).getD p.b.toNat 0≤3000000:=by
    rw[← ea,List.getD_eq_getElem?_getD,qgk (by rw[gl];exact hbl),gd _ hbl]
    simp only[Option.getD_some]
    have:=bnd p.b.toNat
    split<;>omega
   rw[ea,eb] at r
   exact qsb (hlt:=dt (by omega)) (hk:=hp) (hin:=hin) (ha:=dt (by omega)) (hia:=⟨ha,a2'⟩) (hga:=qfd l k hal) (hgl:=by rw[gl];exact hal) (hy1:=qfc (by omega) (by have:=bnd p.a.toNat;omega)) (hb:=dt (by omega)) (hib:=⟨hb,b2'⟩) (hgb:=hv2) (hgm:=h2) (hy2:=qfc (by omega) (by omega)) (hs:=qan (by omega)) r
  ·have eb:∀ g,qe4 g p.b=g:=fun g=>by unfold qe4;rw[if_neg hb]
   rw[ea,eb] at r
   exact qsl (hlt:=dt (by omega)) (hk:=hp) (hin:=hin) (ha:=dt (by omega)) (hia:=⟨ha,a2'⟩) (hga:=qfd l k hal) (hgl:=by rw[gl];exact hal) (hy1:=qfc (by omega) (by have:=bnd p.a.toNat;omega)) (hb:=df (by omega)) (hs:=qan (by omega)) r
 ·have ea:qe4 (gK l k) p.a=gK l k:=by unfold qe4;rw[if_neg ha]
  rw[ea] at r
  by_cases hb:0≤p.b
  ·have hbl:p.b.toNat<l.length:=by omega
   have eb:qe4 (gK l k) p.b=(gK l k).set p.b.toNat ((cK l k p.b.toNat:Int)+1):=by unfold qe4;rw[if_pos hb,gd _ hbl]
   rw[eb] at r
   exact qsV (hlt:=dt (by omega)) (hk:=hp) (hin:=hin) (ha:=df (by omega)) (hb:=dt (by omega)) (hib:=⟨hb,b2'⟩) (hgb:=qfd l k hbl) (hgm:=by rw[gl];exact hbl) (hy2:=qfc (by omega) (by have:=bnd p.b.toNat;omega)) (hs:=qan (by omega)) r
  ·have eb:∀ g,qe4 g p.b=g:=fun g=>by unfold qe4;rw[if_neg hb]
   rw[eb] at r
   exact qtd (hlt:=dt (by omega)) (hk:=hp) (hin:=hin) (ha:=df (by omega)) (hb:=df (by omega)) (hs:=qan (by omega)) r
theorem quA (hL:Lnk ⟨rt,l⟩) (hn:l.length≤1000000):Fn 71 1 [trS 0 rt l] [(0,0,qac l)] (.pv (.bool (pT (One ⟨rt,l⟩)))) 0 []:=by
 have r0:=RunsL.rounds (fun k=>onT l.length k) (fun k=>onH rt l (gK l k)) (N:=l.length) l.length 0 (Nat.zero_add _) (fun k _ hk r=>by
  obtain⟨p,hp⟩:=qal hk
  exact qmY hL hn hp r) (qqU (rt:=rt) (l:=l) (g:=gK l l.length) (k:=l.length) (hlt:=df (by omega)))
 rw[qqq] at r0
 have step:∀ m,(∀ v,v<m→cK l l.length v=if (v:Int)=rt then 0 else 1)→∀ {e:Exit} {tm2:TmL} {hp2:HpL},m≤l.length→
  Rl 1 1 71 1 77 3 (qvo l.length m) (onH rt l (gK l l.length)) e tm2 hp2→Rl 1 1 71 1 77 3 (qvo l.length 0) (onH rt l (gK l l.length)) e tm2 hp2:=by
  intro m hm e tm2 hp2 hml r
  refine RunsL.rounds (fun k=>qvo l.length k) (fun _=>onH rt l (gK l l.length)) (N:=m) m 0 (Nat.zero_add _) (fun k _ hk r=>?_) r
  have hc:=hm k hk
  have hg:=qfd l l.length (v:=k) (by omega)
  by_cases er:(k:Int)=rt
  ·rw[if_pos er] at hc
   exact qnD (x:=(cK l l.length k:Int)) (hlt:=dt (by omega)) (hr:=beq_iff_eq.2 er) (hg:=hg) (hin:=⟨by omega,by omega⟩) (h0:=by rw[hc];rfl) (hr2:=by simp[er]) (hs:=qan (by omega)) r
  ·rw[if_neg er] at hc
   exact qm7 (x:=(cK l l.length k:Int)) (hlt:=dt (by omega)) (hr:=beq_eq_false_iff_ne.2 er) (hr2:=by simpa using er) (hg:=hg) (hin:=⟨by omega,by omega⟩) (h1:=by rw[hc];rfl) (hs:=qan (by omega)) r
 rcases qaK (fun v=>cK l l.length v=if (v:Int)=rt then 0 else 1) l.length with h | ⟨v,hv,hb,hf⟩
 ·rw[qfi (p:=One ⟨rt,l⟩) fun v hv=>h v hv]
  exact qpm (n0:=by omega) (n1:=by omega) (r0:=r0) (r1:=step l.length h (Nat.le_refl _) (qnU (hlt:=df (by omega))))
 ·rw[qf9 (p:=One ⟨rt,l⟩) fun k=>hb (k v hv)]
  have hg:=qfd l l.length hv
  refine qr2 (n0:=by omega) (n1:=by omega) (r0:=r0) (r1:=step v hf (by omega) ?_)
  by_cases er:(v:Int)=rt
  ·rw[if_pos er] at hb
   exact qk0 (x:=(cK l l.length v:Int)) (hlt:=dt (by omega)) (hr:=beq_iff_eq.2 er) (hg:=hg) (hin:=⟨by omega,by omega⟩) (h0:=by simp;omega)
  ·rw[if_neg er] at hb
   exact qjI (x:=(cK l l.length v:Int)) (hlt:=dt (by omega)) (hr:=beq_eq_false_iff_ne.2 er) (hr2:=by simpa using er) (hg:=hg) (hin:=⟨by omega,by omega⟩) (h1:=by simp;omega)
end
end Go.Proofs.Ytalnjplghagbpaa

namespace Go.Proofs.Ytalnjplghagbpaa
set_option maxRecDepth 100000
open Go.RowKit
open Classical in
noncomputable def shC (l:List Pt) (i:Int):Sh Nat:=if h:∃ A,Rep l i A then h.choose else .nil
theorem qdk {l:List Pt} {i:Int} {A:Sh Nat} (h:Rep l i A):shC l i=A:=by
 have hex:∃ A,Rep l i A:=⟨A,h⟩
 unfold shC
 rw[dif_pos hex]
 exact hex.choose_spec.uniq h
theorem Rep.sub {n:List Pt}:∀ {T:Sh Nat} {i:Int},Rep n i T→∀ k∈T.list,∃ A B,Rep n (ndT n k).a A∧Rep n (ndT n k).b B
 | .nil,_,_,k,h=>by cases h
 | .node l y r,i,⟨_,p,hp,a1,a2⟩,k,h=>by
  rcases List.mem_append.1 h with h | h
  ·exact a1.sub k h
  ·rcases List.mem_cons.1 h with rfl | h
   ·have e:ndT n k=p:=by
     have:=qah (n:=n) (k:=k) (List.getElem?_eq_some_iff.1 hp).1
     rw[hp] at this
     exact (Option.some.inj this).symm
    rw[e]
    exact⟨l,r,a1,a2⟩
   ·exact a2.sub k h
noncomputable def ptN (l:List Pt) (n j k:Nat):Pt:=⟨(ndT l k).id,shI n (rtI (res n j (shC l (ndT l k).a))),shI n (rtI (res n j (shC l (ndT l k).b)))⟩
noncomputable def ptL (l:List Pt) (n j k:Nat):List Pt:=(List.range' n (k-n)).map (ptN l n j)
theorem qlT {l:List Pt} {n j k:Nat} (h:n≤k):ptL l n j (k+1)=ptL l n j k++[ptN l n j k]:=by
 unfold ptL
 rw[show k+1-n=(k-n)+1 by omega,List.range'_concat,List.map_append]
 rw[show n+1*(k-n)=k by omega]
 rfl
theorem qcz {l:List Pt} {n j k:Nat}:(ptL l n j k).length=k-n:=by unfold ptL;rw[List.length_map,List.length_range']
theorem qhJ {l:List Pt} {n j k:Nat} (h1:n≤k) (h2:k<j):(ptL l n j j)[k-n]?=some (ptN l n j k):=by
 unfold ptL
 rw[List.getElem?_map,List.getElem?_range' (by omega)]
 simp only[Option.map_some]
 rw[show n+1*(k-n)=k by omega]
section
variable {rt:Int} {l:List Pt}
theorem qjB {lo:Nat} {i:Int} (h : -1≤i) (h2:i≤1000000) (h3:lo≤1000000):Pure Try.prog 97 #[iV i,iV (lo:Int)] (iV (shI lo i)):=by
 unfold shI
 by_cases h0:i<0
 ·rw[if_pos h0];exact qsv (h:=dt h0)
 ·rw[if_neg h0];exact qpU (h:=df h0) (hs:=qfc (by omega) (by omega))
theorem qb3 {lo hi:Nat} {T:Sh Nat} (hT:∀ k∈T.list,k<l.length) (hn:l.length≤1000000) : -1≤rtI (res lo hi T)∧rtI (res lo hi T)≤1000000:=by
 cases e:res lo hi T with
 | nil=>exact⟨Int.le_refl _,by decide⟩
 | node a k b=>
  have:k∈(res lo hi T).list:=by rw[e];exact List.mem_append_right _ List.mem_cons_self
  have:=hT k (qcd this).1
  exact⟨by show (-1:Int)≤(k:Int);omega,by show (k:Int)≤1000000;omega⟩
theorem qtW {T:Sh Nat} (h:Fits ⟨rt,l⟩ T) (hn:l.length≤1000000) {n j:Nat} (h1:n≤j) (h2:j≤l.length):Fn 74 1 [trS 0 rt l,.pv (iV (n:Int)),.pv (iV (j:Int))] [(0,0,qac l)]
 (trS 1 (shI n (rtI (res n j T))) (ptL l n j j)) 1 [(1,0,qac (ptL l n j j))]:=by
 have hrep:Rep l rt T:=h.rep
 have hlt:=hrep.lt
 have g0:=qb3 (lo:=n) (hi:=j) hlt hn
 have last:=qoZ (rt:=rt) (l:=l) (y:=shI n (rtI (res n j T))) (m:=ptL l n j j) (n:=n) (j:=j) (k:=j) (hlt:=df (by omega))
 have base:ptL l n j n=[]:=by unfold ptL;rw[Nat.sub_self];rfl
 have run:=RunsL.rounds (fun k=>[(1,.pv (iV (n:Int))),(2,.pv (iV (j:Int))),(3,.pp 1 0),(6,.pp 2 0),(7,.pp 3 0),(8,.pv (iV (k:Int)))])
  (fun k=>[(1,0,.pv (iV rt)),(1,1,.ls 0 l.length),(2,0,.pv (iV 0)),(2,1,.pv (.slice none 0 0)),(3,0,.pv (iV (shI n (rtI (res n j T))))),(3,1,.ls 4 (ptL l n j k).length),(0,0,qac l),(4,0,qac (ptL l n j k))]) (N:=j) (j-n) n (by omega) (fun k k1 k2 r=>by
   have hkl:k<l.length:=by omega
   have hp:=qah (n:=l) hkl
   obtain⟨A,B,hA,hB⟩:=hrep.sub k ((h.mem k).2 hkl)
   have gA:=qb3 (lo:=n) (hi:=j) hA.lt hn
   have gB:=qb3 (lo:=n) (hi:=j) hB.lt hn
   have eq:ptN l n j k=⟨(ndT l k).id,shI n (rtI (res n j A)),shI n (rtI (res n j B))⟩:=by unfold ptN;rw[qdk hA,qdk hB]
   rw[qlT k1,eq] at r
   exact qlH (hlt:=dt (by omega)) (hk:=hp) (hin:=⟨by omega,by omega⟩) (hi1:=qgN n j hA) (hs1:=qjB gA.1 gA.2 (by omega)) (hi2:=qgN n j hB) (hs2:=qjB gB.1 gB.2 (by omega)) (hm:=by rw[qcz];omega) (hs:=qan (by omega)) r) last
 rw[base] at run
 exact qm0 (hi0:=qgN n j hrep) (hs0:=qjB g0.1 g0.2 (by omega)) (r0:=run)
theorem qmw {T:Sh Nat} (h:Fits ⟨rt,l⟩ T) {n j:Nat}:Rep (ptL l n j j) (shI n (rtI (res n j T))) ((res n j T).map fun k=>k-n):=by
 have hrep:Rep l rt T:=h.rep
 refine qgg hrep fun k h1 h2 p hp A B hA hB=>?_
 rw[qhJ h1 h2]
 have e:ndT l k=p:=by
  have:=qah (n:=l) (k:=k) (List.getElem?_eq_some_iff.1 hp).1
  rw[hp] at this
  exact (Option.some.inj this).symm
 unfold ptN
 rw[e,qdk hA,qdk hB]
end
end Go.Proofs.Ytalnjplghagbpaa

namespace Go.Proofs.Ytalnjplghagbpaa
set_option maxRecDepth 100000
open Go.RowKit
theorem qc1 {rt z:Int} {l:List Pt} {n:Nat} {vs:List Value} (h0:decide (z<0)=true) :
 FnO Try.prog 96 1 2 [trS 0 rt l,.pv (iV (z)),.ls 1 n] [(0,0,qac l),(1,0,.row 3 1 n (vs))] (.ls 1 n) 0 [(1,0,.row 3 1 n (vs))]:=
 qaz 300 [] [.t true]
  (qak (qaA []) [(1,0,.row 3 1 n (vs))]) (Ai h0 tI) (by kernel_rfl)
theorem qgn {rt z:Int} {l:List Pt} (h0:decide (z<0)=true) :
 Fn 96 1 [trS 0 rt l,.pv (iV (z)),.pv (.slice none 0 0)] [(0,0,qac l)] (.pv (.slice none 0 0)) 0 []:=
 Fz [] [.t true]
  tI (Ai h0 tI)
abbrev qi3 (c1:List Int) (l:List Pt) (z:Int):HpL:=[(0,0,qac l),(1,0,.row 3 1 (c1.length+1) (ziV c1++[iV z]))]
theorem qtQ {rt z:Int} {l:List Pt} {p:Pt} {g c1 c2:List Int} (h0:decide (z<0)=false) (h1:decide (((g.length:Int):Int)>(l.length:Int))=false) (hk:l[z.toNat]?=some p) (hin:0≤z∧z<(l.length:Int)) (hl:FnO Try.prog 96 1 2 [trS 0 rt l,.pv (iV (p.a)),.ls 1 g.length] [(0,0,qac l),(1,0,.row 3 1 g.length (ziV g))] (.ls 2 c1.length) 1 [(2,0,zrI c1)]) (hn:c1.length+1≤1000000) (hr:FnO Try.prog 96 1 2 [trS 0 rt l,.pv (iV (p.b)),.ls 1 (c1.length+1)] (qi3 c1 l z) (.ls 2 c2.length) 1 [(2,0,zrI c2)]) :
 FnO Try.prog 96 1 2 [trS 0 rt l,.pv (iV (z)),.ls 1 g.length] [(0,0,qac l),(1,0,zrI g)] (.ls 2 c2.length) 1 [(2,0,.row 3 1 c2.length (ziV c2))]:=
 qaz 300 [(2,6)] [.t false,.t false,.gh [(2,0),(2,1)],.r (iV p.a),.fo 1 [0,1] [trS 0 rt l,.pv (iV (p.a)),.ls 1 g.length] [(0,0,qac l),(1,0,.row 3 1 g.length (ziV g))] (.ls 2 c1.length) 1 [(2,0,zrI c1)],.gh [(2,0),(2,1)],.r (iV p.b),.fo 1 [0,5] [trS 0 rt l,.pv (iV (p.b)),.ls 1 (c1.length+1)] (qi3 c1 l z) (.ls 2 c2.length) 1 [(2,0,zrI c2)]]
  (qak (qaA [(2,6)]) [(2,0,.row 3 1 c2.length (ziV c2))]) (Ai h0 (Ai h1 (Ai (Er (SV.pv (iV rt))) (Ai (Er (SV.ls 0 l.length)) (Ai hin (Ai (Er (SV.pv (iV rt))) (Ai (Er (SV.ls 0 l.length)) (Ai (Er (SV.pv (iV rt))) (Ai (Er (SV.ls 0 l.length)) (Ai (qbO hk) (Ai (Er (SV.pv (iV rt))) (Ai (Er (SV.ls 0 l.length)) (Ai hl (Ai (Eq.refl (List.map (SV.ren (qat [0,1] 3)) [trS 0 rt l,.pv (iV (p.a)),.ls 1 g.length])) (Ai (qak (qat [0,1] 3) [(0,0,qac l),(1,0,.row 3 1 g.length (ziV g))]) (Ai (Er (SV.pv (iV rt))) (Ai (Er (SV.ls 0 l.length)) (Ai (Er (SV.pv (iV rt))) (Ai (Er (SV.ls 0 l.length)) (Ai hn (Ai (Er (SV.pv (iV rt))) (Ai (Er (SV.ls 0 l.length)) (Ai hin (Ai (Er (SV.pv (iV rt))) (Ai (Er (SV.ls 0 l.length)) (Ai (Er (SV.pv (iV rt))) (Ai (Er (SV.ls 0 l.length)) (Ai (qb2 hk) (Ai (Er (SV.pv (iV rt))) (Ai (Er (SV.ls 0 l.length)) (Ai hr (Ai (Eq.refl (List.map (SV.ren (qat [0,5] 6)) [trS 0 rt l,.pv (iV (p.b)),.ls 1 (c1.length+1)])) (Ai (qak (qat [0,5] 6) (qi3 c1 l z)) (Ai (Er (SV.pv (iV rt))) (Ai (Er (SV.ls 0 l.length)) (Ai (Er (SV.pv (iV rt))) (Ai (Er (SV.ls 0 l.length)) tI))))))))))))))))))))))))))))))))))))) (by kernel_rfl)
theorem qrW {rt z:Int} {l:List Pt} {p:Pt} {g c1:List Int} (h0:decide (z<0)=false) (h1:decide (((g.length:Int):Int)>(l.length:Int))=false) (hk:l[z.toNat]?=some p) (hin:0≤z∧z<(l.length:Int)) (hl:FnO Try.prog 96 1 2 [trS 0 rt l,.pv (iV (p.a)),.ls 1 g.length] [(0,0,qac l),(1,0,.row 3 1 g.length (ziV g))] (.ls 2 c1.length) 1 [(2,0,zrI c1)]) (hn:c1.length+1≤1000000) (hr:FnO Try.prog 96 1 2 [trS 0 rt l,.pv (iV (p.b)),.ls 1 (c1.length+1)] (qi3 c1 l z) (.ls 1 (c1.length+1)) 0 [(1,0,.row 3 1 (c1.length+1) (ziV c1++[iV z]))]) :
 FnO Try.prog 96 1 2 [trS 0 rt l,.pv (iV (z)),.ls 1 g.length] [(0,0,qac l),(1,0,zrI g)] (.ls 2 (c1.length+1)) 1 [(2,0,.row 3 1 (c1.length+1) (ziV c1++[iV z]))]:=
 qaz 300 [(2,5)] [.t false,.t false,.gh [(2,0),(2,1)],.r (iV p.a),.fo 1 [0,1] [trS 0 rt l,.pv (iV (p.a)),.ls 1 g.length] [(0,0,qac l),(1,0,.row 3 1 g.length (ziV g))] (.ls 2 c1.length) 1 [(2,0,zrI c1)],.gh [(2,0),(2,1)],.r (iV p.b),.fo 1 [0,5] [trS 0 rt l,.pv (iV (p.b)),.ls 1 (c1.length+1)] (qi3 c1 l z) (.ls 1 (c1.length+1)) 0 [(1,0,.row 3 1 (c1.length+1) (ziV c1++[iV z]))]]
  (qak (qaA [(2,5)]) [(2,0,.row 3 1 (c1.length+1) (ziV c1++[iV z]))]) (Ai h0 (Ai h1 (Ai (Er (SV.pv (iV rt))) (Ai (Er (SV.ls 0 l.length)) (Ai hin (Ai (Er (SV.pv (iV rt))) (Ai (Er (SV.ls 0 l.length)) (Ai (Er (SV.pv (iV rt))) (Ai (Er (SV.ls 0 l.length)) (Ai (qbO hk) (Ai (Er (SV.pv (iV rt))) (Ai (Er (SV.ls 0 l.length)) (Ai hl (Ai (Eq.refl (List.map (SV.ren (qat [0,1] 3)) [trS 0 rt l,.pv (iV (p.a)),.ls 1 g.length])) (Ai (qak (qat [0,1] 3) [(0,0,qac l),(1,0,.row 3 1 g.length (ziV g))]) (Ai (Er (SV.pv (iV rt))) (Ai (Er (SV.ls 0 l.length)) (Ai (Er (SV.pv (iV rt))) (Ai (Er (SV.ls 0 l.length)) (Ai hn (Ai (Er (SV.pv (iV rt))) (Ai (Er (SV.ls 0 l.length)) (Ai hin (Ai (Er (SV.pv (iV rt))) (Ai (Er (SV.ls 0 l.length)) (Ai (Er (SV.pv (iV rt))) (Ai (Er (SV.ls 0 l.length)) (Ai (qb2 hk) (Ai (Er (SV.pv (iV rt))) (Ai (Er (SV.ls 0 l.length)) (Ai hr (Ai (Eq.refl (List.map (SV.ren (qat [0,5] 6)) [trS 0 rt l,.pv (iV (p.b)),.ls 1 (c1.length+1)])) (Ai (qak (qat [0,5] 6) (qi3 c1 l z)) (Ai (Er (SV.pv (iV rt))) (Ai (Er (SV.ls 0 l.length)) (Ai (Er (SV.pv (iV rt))) (Ai (Er (SV.ls 0 l.length)) tI))))))))))))))))))))))))))))))))))))) (by kernel_rfl)
theorem qtj {rt z:Int} {l:List Pt} {p:Pt} {g c2:List Int} (h0:decide (z<0)=false) (h1:decide (((g.length:Int):Int)>(l.length:Int))=false) (hk:l[z.toNat]?=some p) (hin:0≤z∧z<(l.length:Int)) (hl:FnO Try.prog 96 1 2 [trS 0 rt l,.pv (iV (p.a)),.ls 1 g.length] [(0,0,qac l),(1,0,.row 3 1 g.length (ziV g))] (.ls 1 g.length) 0 [(1,0,.row 3 1 g.length (ziV g))]) (hn:g.length+1≤1000000) (hr:FnO Try.prog 96 1 2 [trS 0 rt l,.pv (iV (p.b)),.ls 1 (g.length+1)] [(0,0,qac l),(1,0,.row 3 1 (g.length+1) (ziV g++[iV z]))] (.ls 2 c2.length) 1 [(2,0,zrI c2)]) :
 FnO Try.prog 96 1 2 [trS 0 rt l,.pv (iV (z)),.ls 1 g.length] [(0,0,qac l),(1,0,zrI g)] (.ls 2 c2.length) 1 [(2,0,.row 3 1 c2.length (ziV c2))]:=
 qaz 300 [(2,5)] [.t false,.t false,.gh [(2,0),(2,1)],.r (iV p.a),.fo 1 [0,1] [trS 0 rt l,.pv (iV (p.a)),.ls 1 g.length] [(0,0,qac l),(1,0,.row 3 1 g.length (ziV g))] (.ls 1 g.length) 0 [(1,0,.row 3 1 g.length (ziV g))],.gh [(2,0),(2,1)],.r (iV p.b),.fo 1 [0,4] [trS 0 rt l,.pv (iV (p.b)),.ls 1 (g.length+1)] [(0,0,qac l),(1,0,.row 3 1 (g.length+1) (ziV g++[iV z]))] (.ls 2 c2.length) 1 [(2,0,zrI c2)]]
  (qak (qaA [(2,5)]) [(2,0,.row 3 1 c2.length (ziV c2))]) (Ai h0 (Ai h1 (Ai (Er (SV.pv (iV rt))) (Ai (Er (SV.ls 0 l.length)) (Ai hin (Ai (Er (SV.pv (iV rt))) (Ai (Er (SV.ls 0 l.length)) (Ai (Er (SV.pv (iV rt))) (Ai (Er (SV.ls 0 l.length)) (Ai (qbO hk) (Ai (Er (SV.pv (iV rt))) (Ai (Er (SV.ls 0 l.length)) (Ai hl (Ai (Eq.refl (List.map (SV.ren (qat [0,1] 3)) [trS 0 rt l,.pv (iV (p.a)),.ls 1 g.length])) (Ai (qak (qat [0,1] 3) [(0,0,qac l),(1,0,.row 3 1 g.length (ziV g))]) (Ai (Er (SV.pv (iV rt))) (Ai (Er (SV.ls 0 l.length)) (Ai (Er (SV.pv (iV rt))) (Ai (Er (SV.ls 0 l.length)) (Ai hn (Ai (Er (SV.pv (iV rt))) (Ai (Er (SV.ls 0 l.length)) (Ai hin (Ai (Er (SV.pv (iV rt))) (Ai (Er (SV.ls 0 l.length)) (Ai (Er (SV.pv (iV rt))) (Ai (Er (SV.ls 0 l.length)) (Ai (qb2 hk) (Ai (Er (SV.pv (iV rt))) (Ai (Er (SV.ls 0 l.length)) (Ai hr (Ai (Eq.refl (List.map (SV.ren (qat [0,4] 5)) [trS 0 rt l,.pv (iV (p.b)),.ls 1 (g.length+1)])) (Ai (qak (qat [0,4] 5) [(0,0,qac l),(1,0,.row 3 1 (g.length+1) (ziV g++[iV z]))]) (Ai (Er (SV.pv (iV rt))) (Ai (Er (SV.ls 0 l.length)) (Ai (Er (SV.pv (iV rt))) (Ai (Er (SV.ls 0 l.length)) tI))))))))))))))))))))))))))))))))))))) (by kernel_rfl)
theorem qtz {rt z:Int} {l:List Pt} {p:Pt} {g:List Int} (h0:decide (z<0)=false) (h1:decide (((g.length:Int):Int)>(l.length:Int))=false) (hk:l[z.toNat]?=some p) (hin:0≤z∧z<(l.length:Int)) (hl:FnO Try.prog 96 1 2 [trS 0 rt l,.pv (iV (p.a)),.ls 1 g.length] [(0,0,qac l),(1,0,.row 3 1 g.length (ziV g))] (.ls 1 g.length) 0 [(1,0,.row 3 1 g.length (ziV g))]) (hn:g.length+1≤1000000) (hr:FnO Try.prog 96 1 2 [trS 0 rt l,.pv (iV (p.b)),.ls 1 (g.length+1)] [(0,0,qac l),(1,0,.row 3 1 (g.length+1) (ziV g++[iV z]))] (.ls 1 (g.length+1)) 0 [(1,0,.row 3 1 (g.length+1) (ziV g++[iV z]))]) :
 FnO Try.prog 96 1 2 [trS 0 rt l,.pv (iV (z)),.ls 1 g.length] [(0,0,qac l),(1,0,zrI g)] (.ls 2 (g.length+1)) 1 [(2,0,.row 3 1 (g.length+1) (ziV g++[iV z]))]:=
 qaz 300 [(2,4)] [.t false,.t false,.gh [(2,0),(2,1)],.r (iV p.a),.fo 1 [0,1] [trS 0 rt l,.pv (iV (p.a)),.ls 1 g.length] [(0,0,qac l),(1,0,.row 3 1 g.length (ziV g))] (.ls 1 g.length) 0 [(1,0,.row 3 1 g.length (ziV g))],.gh [(2,0),(2,1)],.r (iV p.b),.fo 1 [0,4] [trS 0 rt l,.pv (iV (p.b)),.ls 1 (g.length+1)] [(0,0,qac l),(1,0,.row 3 1 (g.length+1) (ziV g++[iV z]))] (.ls 1 (g.length+1)) 0 [(1,0,.row 3 1 (g.length+1) (ziV g++[iV z]))]]
  (qak (qaA [(2,4)]) [(2,0,.row 3 1 (g.length+1) (ziV g++[iV z]))]) (Ai h0 (Ai h1 (Ai (Er (SV.pv (iV rt))) (Ai (Er (SV.ls 0 l.length)) (Ai hin (Ai (Er (SV.pv (iV rt))) (Ai (Er (SV.ls 0 l.length)) (Ai (Er (SV.pv (iV rt))) (Ai (Er (SV.ls 0 l.length)) (Ai (qbO hk) (Ai (Er (SV.pv (iV rt))) (Ai (Er (SV.ls 0 l.length)) (Ai hl (Ai (Eq.refl (List.map (SV.ren (qat [0,1] 3)) [trS 0 rt l,.pv (iV (p.a)),.ls 1 g.length])) (Ai (qak (qat [0,1] 3) [(0,0,qac l),(1,0,.row 3 1 g.length (ziV g))]) (Ai (Er (SV.pv (iV rt))) (Ai (Er (SV.ls 0 l.length)) (Ai (Er (SV.pv (iV rt))) (Ai (Er (SV.ls 0 l.length)) (Ai hn (Ai (Er (SV.pv (iV rt))) (Ai (Er (SV.ls 0 l.length)) (Ai hin (Ai (Er (SV.pv (iV rt))) (Ai (Er (SV.ls 0 l.length)) (Ai (Er (SV.pv (iV rt))) (Ai (Er (SV.ls 0 l.length)) (Ai (qb2 hk) (Ai (Er (SV.pv (iV rt))) (Ai (Er (SV.ls 0 l.length)) (Ai hr (Ai (Eq.refl (List.map (SV.ren (qat [0,4] 5)) [trS 0 rt l,.pv (iV (p.b)),.ls 1 (g.length+1)])) (Ai (qak (qat [0,4] 5) [(0,0,qac l),(1,0,.row 3 1 (g.length+1) (ziV g++[iV z]))]) (Ai (Er (SV.pv (iV rt))) (Ai (Er (SV.ls 0 l.length)) (Ai (Er (SV.pv (iV rt))) (Ai (Er (SV.ls 0 l.length)) tI))))))))))))))))))))))))))))))))))))) (by kernel_rfl)
theorem qsc {rt z:Int} {l:List Pt} {p:Pt} {c1 c2:List Int} (h0:decide (z<0)=false) (h1:decide ((0:Int)>(l.length:Int))=false) (hk:l[z.toNat]?=some p) (hin:0≤z∧z<(l.length:Int)) (hl:FnO Try.prog 96 1 2 [trS 0 rt l,.pv (iV (p.a)),.ls 1 0] [(0,0,qac l),(1,0,.row 3 1 0 ([]))] (.ls 2 c1.length) 1 [(2,0,zrI c1)]) (hn:c1.length+1≤1000000) (hr:FnO Try.prog 96 1 2 [trS 0 rt l,.pv (iV (p.b)),.ls 1 (c1.length+1)] (qi3 c1 l z) (.ls 2 c2.length) 1 [(2,0,zrI c2)]) :
 Fn 96 1 [trS 0 rt l,.pv (iV (z)),.pv (.slice none 0 0)] [(0,0,qac l)] (.ls 1 c2.length) 1 [(1,0,.row 3 1 c2.length (ziV c2))]:=
 Fz [(1,6)] [.lz true 2 0 3 1,.t false,.t false,.gh [(2,0),(2,1)],.r (iV p.a),.fo 1 [0,1] [trS 0 rt l,.pv (iV (p.a)),.ls 1 0] [(0,0,qac l),(1,0,.row 3 1 0 ([]))] (.ls 2 c1.length) 1 [(2,0,zrI c1)],.gh [(2,0),(2,1)],.r (iV p.b),.fo 1 [0,5] [trS 0 rt l,.pv (iV (p.b)),.ls 1 (c1.length+1)] (qi3 c1 l z) (.ls 2 c2.length) 1 [(2,0,zrI c2)]]
  (qak (qaA [(1,6)]) [(1,0,.row 3 1 c2.length (ziV c2))]) (Ai h0 (Ai h1 (Ai (Er (SV.pv (iV rt))) (Ai (Er (SV.ls 0 l.length)) (Ai hin (Ai (Er (SV.pv (iV rt))) (Ai (Er (SV.ls 0 l.length)) (Ai (Er (SV.pv (iV rt))) (Ai (Er (SV.ls 0 l.length)) (Ai (qbO hk) (Ai (Er (SV.pv (iV rt))) (Ai (Er (SV.ls 0 l.length)) (Ai hl (Ai (Eq.refl (List.map (SV.ren (qat [0,1] 3)) [trS 0 rt l,.pv (iV (p.a)),.ls 1 0])) (Ai (qak (qat [0,1] 3) [(0,0,qac l),(1,0,.row 3 1 0 ([]))]) (Ai (Er (SV.pv (iV rt))) (Ai (Er (SV.ls 0 l.length)) (Ai (Er (SV.pv (iV rt))) (Ai (Er (SV.ls 0 l.length)) (Ai hn (Ai (Er (SV.pv (iV rt))) (Ai (Er (SV.ls 0 l.length)) (Ai hin (Ai (Er (SV.pv (iV rt))) (Ai (Er (SV.ls 0 l.length)) (Ai (Er (SV.pv (iV rt))) (Ai (Er (SV.ls 0 l.length)) (Ai (qb2 hk) (Ai (Er (SV.pv (iV rt))) (Ai (Er (SV.ls 0 l.length)) (Ai hr (Ai (Eq.refl (List.map (SV.ren (qat [0,5] 6)) [trS 0 rt l,.pv (iV (p.b)),.ls 1 (c1.length+1)])) (Ai (qak (qat [0,5] 6) (qi3 c1 l z)) (Ai (Er (SV.pv (iV rt))) (Ai (Er (SV.ls 0 l.length)) (Ai (Er (SV.pv (iV rt))) (Ai (Er (SV.ls 0 l.length)) tI)))))))))))))))))))))))))))))))))))))
theorem qsC {rt z:Int} {l:List Pt} {p:Pt} {c1:List Int} (h0:decide (z<0)=false) (h1:decide ((0:Int)>(l.length:Int))=false) (hk:l[z.toNat]?=some p) (hin:0≤z∧z<(l.length:Int)) (hl:FnO Try.prog 96 1 2 [trS 0 rt l,.pv (iV (p.a)),.ls 1 0] [(0,0,qac l),(1,0,.row 3 1 0 ([]))] (.ls 2 c1.length) 1 [(2,0,zrI c1)]) (hn:c1.length+1≤1000000) (hr:FnO Try.prog 96 1 2 [trS 0 rt l,.pv (iV (p.b)),.ls 1 (c1.length+1)] (qi3 c1 l z) (.ls 1 (c1.length+1)) 0 [(1,0,.row 3 1 (c1.length+1) (ziV c1++[iV z]))]) :
 Fn 96 1 [trS 0 rt l,.pv (iV (z)),.pv (.slice none 0 0)] [(0,0,qac l)] (.ls 1 (c1.length+1)) 1 [(1,0,.row 3 1 (c1.length+1) (ziV c1++[iV z]))]:=
 Fz [(1,5)] [.lz true 2 0 3 1,.t false,.t false,.gh [(2,0),(2,1)],.r (iV p.a),.fo 1 [0,1] [trS 0 rt l,.pv (iV (p.a)),.ls 1 0] [(0,0,qac l),(1,0,.row 3 1 0 ([]))] (.ls 2 c1.length) 1 [(2,0,zrI c1)],.gh [(2,0),(2,1)],.r (iV p.b),.fo 1 [0,5] [trS 0 rt l,.pv (iV (p.b)),.ls 1 (c1.length+1)] (qi3 c1 l z) (.ls 1 (c1.length+1)) 0 [(1,0,.row 3 1 (c1.length+1) (ziV c1++[iV z]))]]
  (qak (qaA [(1,5)]) [(1,0,.row 3 1 (c1.length+1) (ziV c1++[iV z]))]) (Ai h0 (Ai h1 (Ai (Er (SV.pv (iV rt))) (Ai (Er (SV.ls 0 l.length)) (Ai hin (Ai (Er (SV.pv (iV rt))) (Ai (Er (SV.ls 0 l.length)) (Ai (Er (SV.pv (iV rt))) (Ai (Er (SV.ls 0 l.length)) (Ai (qbO hk) (Ai (Er (SV.pv (iV rt))) (Ai (Er (SV.ls 0 l.length)) (Ai hl (Ai (Eq.refl (List.map (SV.ren (qat [0,1] 3)) [trS 0 rt l,.pv (iV (p.a)),.ls 1 0])) (Ai (qak (qat [0,1] 3) [(0,0,qac l),(1,0,.row 3 1 0 ([]))]) (Ai (Er (SV.pv (iV rt))) (Ai (Er (SV.ls 0 l.length)) (Ai (Er (SV.pv (iV rt))) (Ai (Er (SV.ls 0 l.length)) (Ai hn (Ai (Er (SV.pv (iV rt))) (Ai (Er (SV.ls 0 l.length)) (Ai hin (Ai (Er (SV.pv (iV rt))) (Ai (Er (SV.ls 0 l.length)) (Ai (Er (SV.pv (iV rt))) (Ai (Er (SV.ls 0 l.length)) (Ai (qb2 hk) (Ai (Er (SV.pv (iV rt))) (Ai (Er (SV.ls 0 l.length)) (Ai hr (Ai (Eq.refl (List.map (SV.ren (qat [0,5] 6)) [trS 0 rt l,.pv (iV (p.b)),.ls 1 (c1.length+1)])) (Ai (qak (qat [0,5] 6) (qi3 c1 l z)) (Ai (Er (SV.pv (iV rt))) (Ai (Er (SV.ls 0 l.length)) (Ai (Er (SV.pv (iV rt))) (Ai (Er (SV.ls 0 l.length)) tI)))))))))))))))))))))))))))))))))))))
theorem qr9 {rt z:Int} {l:List Pt} {p:Pt} {c2:List Int} (h0:decide (z<0)=false) (h1:decide ((0:Int)>(l.length:Int))=false) (hk:l[z.toNat]?=some p) (hin:0≤z∧z<(l.length:Int)) (hl:FnO Try.prog 96 1 2 [trS 0 rt l,.pv (iV (p.a)),.ls 1 0] [(0,0,qac l),(1,0,.row 3 1 0 ([]))] (.ls 1 0) 0 [(1,0,.row 3 1 0 ([]))]) (hn:0+1≤1000000) (hr:FnO Try.prog 96 1 2 [trS 0 rt l,.pv (iV (p.b)),.ls 1 (0+1)] [(0,0,qac l),(1,0,.row 3 1 (0+1) ([]++[iV z]))] (.ls 2 c2.length) 1 [(2,0,zrI c2)]) :
 Fn 96 1 [trS 0 rt l,.pv (iV (z)),.pv (.slice none 0 0)] [(0,0,qac l)] (.ls 1 c2.length) 1 [(1,0,.row 3 1 c2.length (ziV c2))]:=
 Fz [(1,5)] [.lz true 2 0 3 1,.t false,.t false,.gh [(2,0),(2,1)],.r (iV p.a),.fo 1 [0,1] [trS 0 rt l,.pv (iV (p.a)),.ls 1 0] [(0,0,qac l),(1,0,.row 3 1 0 ([]))] (.ls 1 0) 0 [(1,0,.row 3 1 0 ([]))],.gh [(2,0),(2,1)],.r (iV p.b),.fo 1 [0,4] [trS 0 rt l,.pv (iV (p.b)),.ls 1 (0+1)] [(0,0,qac l),(1,0,.row 3 1 (0+1) ([]++[iV z]))] (.ls 2 c2.length) 1 [(2,0,zrI c2)]]
  (qak (qaA [(1,5)]) [(1,0,.row 3 1 c2.length (ziV c2))]) (Ai h0 (Ai h1 (Ai (Er (SV.pv (iV rt))) (Ai (Er (SV.ls 0 l.length)) (Ai hin (Ai (Er (SV.pv (iV rt))) (Ai (Er (SV.ls 0 l.length)) (Ai (Er (SV.pv (iV rt))) (Ai (Er (SV.ls 0 l.length)) (Ai (qbO hk) (Ai (Er (SV.pv (iV rt))) (Ai (Er (SV.ls 0 l.length)) (Ai hl (Ai (Eq.refl (List.map (SV.ren (qat [0,1] 3)) [trS 0 rt l,.pv (iV (p.a)),.ls 1 0])) (Ai (qak (qat [0,1] 3) [(0,0,qac l),(1,0,.row 3 1 0 ([]))]) (Ai (Er (SV.pv (iV rt))) (Ai (Er (SV.ls 0 l.length)) (Ai (Er (SV.pv (iV rt))) (Ai (Er (SV.ls 0 l.length)) (Ai hn (Ai (Er (SV.pv (iV rt))) (Ai (Er (SV.ls 0 l.length)) (Ai hin (Ai (Er (SV.pv (iV rt))) (Ai (Er (SV.ls 0 l.length)) (Ai (Er (SV.pv (iV rt))) (Ai (Er (SV.ls 0 l.length)) (Ai (qb2 hk) (Ai (Er (SV.pv (iV rt))) (Ai (Er (SV.ls 0 l.length)) (Ai hr (Ai (Eq.refl (List.map (SV.ren (qat [0,4] 5)) [trS 0 rt l,.pv (iV (p.b)),.ls 1 (0+1)])) (Ai (qak (qat [0,4] 5) [(0,0,qac l),(1,0,.row 3 1 (0+1) ([]++[iV z]))]) (Ai (Er (SV.pv (iV rt))) (Ai (Er (SV.ls 0 l.length)) (Ai (Er (SV.pv (iV rt))) (Ai (Er (SV.ls 0 l.length)) tI)))))))))))))))))))))))))))))))))))))
theorem qsh {rt z:Int} {l:List Pt} {p:Pt} (h0:decide (z<0)=false) (h1:decide ((0:Int)>(l.length:Int))=false) (hk:l[z.toNat]?=some p) (hin:0≤z∧z<(l.length:Int)) (hl:FnO Try.prog 96 1 2 [trS 0 rt l,.pv (iV (p.a)),.ls 1 0] [(0,0,qac l),(1,0,.row 3 1 0 ([]))] (.ls 1 0) 0 [(1,0,.row 3 1 0 ([]))]) (hn:0+1≤1000000) (hr:FnO Try.prog 96 1 2 [trS 0 rt l,.pv (iV (p.b)),.ls 1 (0+1)] [(0,0,qac l),(1,0,.row 3 1 (0+1) ([]++[iV z]))] (.ls 1 (0+1)) 0 [(1,0,.row 3 1 (0+1) ([]++[iV z]))]) :
 Fn 96 1 [trS 0 rt l,.pv (iV (z)),.pv (.slice none 0 0)] [(0,0,qac l)] (.ls 1 (0+1)) 1 [(1,0,.row 3 1 (0+1) ([]++[iV z]))]:=
 Fz [(1,4)] [.lz true 2 0 3 1,.t false,.t false,.gh [(2,0),(2,1)],.r (iV p.a),.fo 1 [0,1] [trS 0 rt l,.pv (iV (p.a)),.ls 1 0] [(0,0,qac l),(1,0,.row 3 1 0 ([]))] (.ls 1 0) 0 [(1,0,.row 3 1 0 ([]))],.gh [(2,0),(2,1)],.r (iV p.b),.fo 1 [0,4] [trS 0 rt l,.pv (iV (p.b)),.ls 1 (0+1)] [(0,0,qac l),(1,0,.row 3 1 (0+1) ([]++[iV z]))] (.ls 1 (0+1)) 0 [(1,0,.row 3 1 (0+1) ([]++[iV z]))]]
  (qak (qaA [(1,4)]) [(1,0,.row 3 1 (0+1) ([]++[iV z]))]) (Ai h0 (Ai h1 (Ai (Er (SV.pv (iV rt))) (Ai (Er (SV.ls 0 l.length)) (Ai hin (Ai (Er (SV.pv (iV rt))) (Ai (Er (SV.ls 0 l.length)) (Ai (Er (SV.pv (iV rt))) (Ai (Er (SV.ls 0 l.length)) (Ai (qbO hk) (Ai (Er (SV.pv (iV rt))) (Ai (Er (SV.ls 0 l.length)) (Ai hl (Ai (Eq.refl (List.map (SV.ren (qat [0,1] 3)) [trS 0 rt l,.pv (iV (p.a)),.ls 1 0])) (Ai (qak (qat [0,1] 3) [(0,0,qac l),(1,0,.row 3 1 0 ([]))]) (Ai (Er (SV.pv (iV rt))) (Ai (Er (SV.ls 0 l.length)) (Ai (Er (SV.pv (iV rt))) (Ai (Er (SV.ls 0 l.length)) (Ai hn (Ai (Er (SV.pv (iV rt))) (Ai (Er (SV.ls 0 l.length)) (Ai hin (Ai (Er (SV.pv (iV rt))) (Ai (Er (SV.ls 0 l.length)) (Ai (Er (SV.pv (iV rt))) (Ai (Er (SV.ls 0 l.length)) (Ai (qb2 hk) (Ai (Er (SV.pv (iV rt))) (Ai (Er (SV.ls 0 l.length)) (Ai hr (Ai (Eq.refl (List.map (SV.ren (qat [0,4] 5)) [trS 0 rt l,.pv (iV (p.b)),.ls 1 (0+1)])) (Ai (qak (qat [0,4] 5) [(0,0,qac l),(1,0,.row 3 1 (0+1) ([]++[iV z]))]) (Ai (Er (SV.pv (iV rt))) (Ai (Er (SV.ls 0 l.length)) (Ai (Er (SV.pv (iV rt))) (Ai (Er (SV.ls 0 l.length)) tI)))))))))))))))))))))))))))))))))))))
end Go.Proofs.Ytalnjplghagbpaa

namespace Go.Proofs.Ytalnjplghagbpaa
set_option maxRecDepth 100000
open Go.RowKit
theorem qoD:∀ {l:List Pt} {k:Nat} {p:Pt} (_:l[k]?=some p) (x:Int),qam (l.set k ⟨p.id,x,p.b⟩)=qff (qam l) (k*3+1) [iV x]
 | [],k,p,h,_=>by simp at h
 | q::r,0,p,h,x=>by simp at h;subst h;rfl
 | q::r,k+1,p,h,x=>by
  rw[List.set_cons_succ,qam,qoD (l:=r) (k:=k) (p:=p) (by simpa using h) x,show (k+1)*3+1=(k*3+1)+1+1+1 by omega]
  simp[qff,qam,Nat.add_right_comm]
theorem qoy:∀ {l:List Pt} {k:Nat} {p:Pt} (_:l[k]?=some p) (x:Int),qam (l.set k ⟨p.id,p.a,x⟩)=qff (qam l) (k*3+2) [iV x]
 | [],k,p,h,_=>by simp at h
 | q::r,0,p,h,x=>by simp at h;subst h;rfl
 | q::r,k+1,p,h,x=>by
  rw[List.set_cons_succ,qam,qoy (l:=r) (k:=k) (p:=p) (by simpa using h) x,show (k+1)*3+2=(k*3+2)+1+1+1 by omega]
  simp[qff,qam,Nat.add_right_comm]
theorem qnM {l:List Pt} {z:Int} {p:Pt} (h:l[z.toNat]?=some p) (x:Int):qam (l.set z.toNat ⟨p.id,x,p.b⟩)=qff (qam l) (0*3+z.toNat*3+1) [iV x]:=by
 rw[show 0*3+z.toNat*3+1=z.toNat*3+1 by omega];exact qoD h x
theorem qmI {l:List Pt} {z:Int} {p:Pt} (h:l[z.toNat]?=some p) (x:Int):qam (l.set z.toNat ⟨p.id,p.a,x⟩)=qff (qam l) (0*3+z.toNat*3+2) [iV x]:=by
 rw[show 0*3+z.toNat*3+2=z.toNat*3+2 by omega];exact qoy h x
theorem qgL:∀ l:List Pt,(qam l).length=l.length*3
 | []=>rfl
 | _::r=>by rw[qam];simp only[List.length_cons];rw[qgL r];omega
theorem qmi {l:List Pt} {z:Int} {p:Pt} (h:l[z.toNat]?=some p):0*3+z.toNat*3+1+1≤(qam l).length:=by
 rw[qgL];have:=qai h;omega
theorem qml {l:List Pt} {z:Int} {p:Pt} (h:l[z.toNat]?=some p):0*3+z.toNat*3+2+1≤(qam l).length:=by
 rw[qgL];have:=qai h;omega
abbrev qgQ (l:List Pt) (n:Nat) (s:List Pt):HpL:=[(0,0,qag s),(1,0,.row 26 3 n (qam l))]
theorem qmU {rt z lo hi tn td:Int} {s l:List Pt} {n:Nat} (ht:Fn 110 1 [qaq 0 s,.pv (qaa tn td),.pv (iV (lo)),.pv (iV (hi))] [(0,0,qag s)] (.pv (iV (z))) 0 []) (h0:decide (z≥0)=false) :
 FnO Try.prog 94 1 2 [qaq 0 s,.pv (qaa tn td),.ag [.pv (iV rt),.ls 1 n],.pv (iV (lo)),.pv (iV (hi))] (qgQ l n s) (.pv (iV (z))) 0 [(1,0,.row 26 3 n (qam l))]:=
 qaz 300 [] [.f [0] [qaq 0 s,.pv (qaa tn td),.pv (iV (lo)),.pv (iV (hi))] [(0,0,qag s)] (.pv (iV (z))) 0 [],.t false]
  (qak (qaA []) [(1,0,.row 26 3 n (qam l))]) (Ai ht (Ai (Eq.refl (List.map (SV.ren (qat [0] 5)) [qaq 0 s,.pv (qaa tn td),.pv (iV (lo)),.pv (iV (hi))])) (Ai (qak (qat [0] 5) [(0,0,qag s)]) (Ai h0 tI)))) (by kernel_rfl)
theorem qmA {rt x y z w1 lo hi tn td:Int} {s l n1 n2:List Pt} {p q:Pt} {n:Nat} (ht:Fn 110 1 [qaq 0 s,.pv (qaa tn td),.pv (iV (lo)),.pv (iV (hi))] [(0,0,qag s)] (.pv (iV (z))) 0 []) (h0:decide (z≥0)=true) (hl:FnO Try.prog 94 1 2 [qaq 0 s,.pv (qaa tn td),.ag [.pv (iV rt),.ls 1 n],.pv (iV (lo)),.pv (iV (z))] (qgQ l n s) (.pv (iV (x))) 0 [(1,0,.row 26 3 n (qam n1))]) (hin:0≤z∧z<(n:Int)) (hp1:n1[z.toNat]?=some p) (hs:iV (IntKind.i64.wrap (z+1))=iV (w1)) (hr:FnO Try.prog 94 1 2 [qaq 0 s,.pv (qaa tn td),.ag [.pv (iV rt),.ls 1 n],.pv (iV (w1)),.pv (iV (hi))] [(0,0,qag s),(1,0,.row 26 3 n (qam (n1.set z.toNat ⟨p.id,x,p.b⟩)))] (.pv (iV (y))) 0 [(1,0,.row 26 3 n (qam n2))]) (hq1:n2[z.toNat]?=some q) :
 FnO Try.prog 94 1 2 [qaq 0 s,.pv (qaa tn td),.ag [.pv (iV rt),.ls 1 n],.pv (iV (lo)),.pv (iV (hi))] (qgQ l n s) (.pv (iV (z))) 0 [(1,0,.row 26 3 n (qam (n2.set z.toNat ⟨q.id,q.a,y⟩)))]:=
 qaz 300 [] [.f [0] [qaq 0 s,.pv (qaa tn td),.pv (iV (lo)),.pv (iV (hi))] [(0,0,qag s)] (.pv (iV (z))) 0 [],.t true,.gh [(2,0),(3,0),(3,1),(4,0),(4,1)],.fo 1 [0,1] [qaq 0 s,.pv (qaa tn td),.ag [.pv (iV rt),.ls 1 n],.pv (iV (lo)),.pv (iV (z))] (qgQ l n s) (.pv (iV (x))) 0 [(1,0,.row 26 3 n (qam n1))],.w (qam (n1.set z.toNat ⟨p.id,x,p.b⟩)),.gh [(2,0),(3,0),(3,1),(4,0),(4,1)],.r (iV (w1)),.fo 1 [0,1] [qaq 0 s,.pv (qaa tn td),.ag [.pv (iV rt),.ls 1 n],.pv (iV (w1)),.pv (iV (hi))] [(0,0,qag s),(1,0,.row 26 3 n (qam (n1.set z.toNat ⟨p.id,x,p.b⟩)))] (.pv (iV (y))) 0 [(1,0,.row 26 3 n (qam n2))],.w (qam (n2.set z.toNat ⟨q.id,q.a,y⟩))]
  (qak (qaA []) [(1,0,.row 26 3 n (qam (n2.set z.toNat ⟨q.id,q.a,y⟩)))]) (Ai ht (Ai (Eq.refl (List.map (SV.ren (qat [0] 5)) [qaq 0 s,.pv (qaa tn td),.pv (iV (lo)),.pv (iV (hi))])) (Ai (qak (qat [0] 5) [(0,0,qag s)]) (Ai h0 (Ai (Er (SV.ls 0 s.length)) (Ai (Er (SV.pv (iV tn))) (Ai (Er (SV.pv (iV td))) (Ai (Er (SV.pv (iV rt))) (Ai (Er (SV.ls 1 n)) (Ai hl (Ai (Eq.refl (List.map (SV.ren (qat [0,1] 5)) [qaq 0 s,.pv (qaa tn td),.ag [.pv (iV rt),.ls 1 n],.pv (iV (lo)),.pv (iV (z))])) (Ai (qak (qat [0,1] 5) (qgQ l n s)) (Ai (Er (SV.ls 0 s.length)) (Ai (Er (SV.pv (iV tn))) (Ai (Er (SV.pv (iV td))) (Ai (Er (SV.pv (iV rt))) (Ai (Er (SV.ls 1 n)) (Ai hin (Ai (Er (SV.ls 0 s.length)) (Ai (Er (SV.pv (iV tn))) (Ai (Er (SV.pv (iV td))) (Ai (Er (SV.pv (iV rt))) (Ai (Er (SV.ls 1 n)) (Ai (Er (SV.ls 0 s.length)) (Ai (Er (SV.pv (iV tn))) (Ai (Er (SV.pv (iV td))) (Ai (Er (SV.pv (iV rt))) (Ai (Er (SV.ls 1 n)) (Ai (qnM hp1 x) (Ai (qmi hp1) (Ai (Er (SV.ls 0 s.length)) (Ai (Er (SV.pv (iV tn))) (Ai (Er (SV.pv (iV td))) (Ai (Er (SV.pv (iV rt))) (Ai (Er (SV.ls 1 n)) (Ai hs (Ai (Er (SV.ls 0 s.length)) (Ai (Er (SV.pv (iV tn))) (Ai (Er (SV.pv (iV td))) (Ai (Er (SV.pv (iV rt))) (Ai (Er (SV.ls 1 n)) (Ai hr (Ai (Eq.refl (List.map (SV.ren (qat [0,1] 5)) [qaq 0 s,.pv (qaa tn td),.ag [.pv (iV rt),.ls 1 n],.pv (iV (w1)),.pv (iV (hi))])) (Ai (qak (qat [0,1] 5) [(0,0,qag s),(1,0,.row 26 3 n (qam (n1.set z.toNat ⟨p.id,x,p.b⟩)))]) (Ai (Er (SV.ls 0 s.length)) (Ai (Er (SV.pv (iV tn))) (Ai (Er (SV.pv (iV td))) (Ai (Er (SV.pv (iV rt))) (Ai (Er (SV.ls 1 n)) (Ai hin (Ai (Er (SV.ls 0 s.length)) (Ai (Er (SV.pv (iV tn))) (Ai (Er (SV.pv (iV td))) (Ai (Er (SV.pv (iV rt))) (Ai (Er (SV.ls 1 n)) (Ai (Er (SV.ls 0 s.length)) (Ai (Er (SV.pv (iV tn))) (Ai (Er (SV.pv (iV td))) (Ai (Er (SV.pv (iV rt))) (Ai (Er (SV.ls 1 n)) (Ai (qmI hq1 y) (Ai (qml hq1) (Ai (Er (SV.ls 0 s.length)) (Ai (Er (SV.pv (iV tn))) (Ai (Er (SV.pv (iV td))) (Ai (Er (SV.pv (iV rt))) (Ai (Er (SV.ls 1 n)) tI))))))))))))))))))))))))))))))))))))))))))))))))))))))))))))))))))) (by kernel_rfl)
theorem qut {rt z v tn td:Int} {s l:List Pt} {n:Nat} (h0:decide (z<0)=true) :
 FnO Try.prog 102 1 2 [.ag [.pv (iV rt),.ls 1 n],qaq 0 s,.pv (qaa tn td),.pv (iV (z)),.pv (iV (v))] (qgQ l n s) (.pv (iV (v))) 0 [(1,0,.row 26 3 n (qam l))]:=
 qaz 300 [] [.t true]
  (qak (qaA []) [(1,0,.row 26 3 n (qam l))]) (Ai h0 tI) (by kernel_rfl)
theorem qvV {rt z v tn td:Int} {s l:List Pt} {n:Nat} (h0:decide (z<0)=false) (h1:decide (v<0)=true) :
 FnO Try.prog 102 1 2 [.ag [.pv (iV rt),.ls 1 n],qaq 0 s,.pv (qaa tn td),.pv (iV (z)),.pv (iV (v))] (qgQ l n s) (.pv (iV (z))) 0 [(1,0,.row 26 3 n (qam l))]:=
 qaz 300 [] [.t false,.t true]
  (qak (qaA []) [(1,0,.row 26 3 n (qam l))]) (Ai h0 (Ai h1 tI)) (by kernel_rfl)
theorem qvj {rt x z v i0 k0 tn td:Int} {s l n1:List Pt} {p q:Pt} {n:Nat} {p1 q1 p2:Pt} (h0:decide (z<0)=false) (h1:decide (v<0)=false) (hk:l[z.toNat]?=some p) (hin:0≤z∧z<(n:Int)) (hm:l[v.toNat]?=some q) (hjn:0≤v∧v<(n:Int)) (hp:s[i0.toNat]?=some p1) (hpn:0≤i0∧i0<(s.length:Int)) (hq:s[k0.toNat]?=some q1) (hqn:0≤k0∧k0<(s.length:Int)) (ha:Fn 43 1 [qaq 0 s,.pv (iV (p.id))] [(0,0,qag s)] (.pv (iV (i0))) 0 []) (hb:Fn 43 1 [qaq 0 s,.pv (iV (q.id))] [(0,0,qag s)] (.pv (iV (k0))) 0 []) (hw:Pure Try.prog 111 #[ptV p1,ptV q1,qaa tn td] (.bool true)) (hl:FnO Try.prog 102 1 2 [.ag [.pv (iV rt),.ls 1 n],qaq 0 s,.pv (qaa tn td),.pv (iV (p.b)),.pv (iV (v))] (qgQ l n s) (.pv (iV (x))) 0 [(1,0,.row 26 3 n (qam n1))]) (hs:n1[z.toNat]?=some p2) :
 FnO Try.prog 102 1 2 [.ag [.pv (iV rt),.ls 1 n],qaq 0 s,.pv (qaa tn td),.pv (iV (z)),.pv (iV (v))] (qgQ l n s) (.pv (iV (z))) 0 [(1,0,.row 26 3 n (qam (n1.set z.toNat ⟨p2.id,p2.a,x⟩)))]:=
 qaz 300 [] [.t false,.t false,.md,.r (iV p.id),.f [0] [qaq 0 s,.pv (iV (p.id))] [(0,0,qag s)] (.pv (iV (i0))) 0 [],.r (ptV p1),.r (iV q.id),.f [0] [qaq 0 s,.pv (iV (q.id))] [(0,0,qag s)] (.pv (iV (k0))) 0 [],.r (ptV q1),.r (.bool true),.gh [(2,0),(2,1),(3,0),(4,0),(4,1)],.r (iV p.b),.fo 1 [0,1] [.ag [.pv (iV rt),.ls 1 n],qaq 0 s,.pv (qaa tn td),.pv (iV (p.b)),.pv (iV (v))] (qgQ l n s) (.pv (iV (x))) 0 [(1,0,.row 26 3 n (qam n1))],.w (qam (n1.set z.toNat ⟨p2.id,p2.a,x⟩))]
  (qak (qaA []) [(1,0,.row 26 3 n (qam (n1.set z.toNat ⟨p2.id,p2.a,x⟩)))]) (Ai h0 (Ai h1 (Ai hin (Ai (qaB hk) (Ai ha (Ai (Eq.refl (List.map (SV.ren (qat [0] 5)) [qaq 0 s,.pv (iV (p.id))])) (Ai (qak (qat [0] 5) [(0,0,qag s)]) (Ai hpn (Ai (qbH hp) (Ai hjn (Ai (qaB hm) (Ai hb (Ai (Eq.refl (List.map (SV.ren (qat [0] 5)) [qaq 0 s,.pv (iV (q.id))])) (Ai (qak (qat [0] 5) [(0,0,qag s)]) (Ai hqn (Ai (qbH hq) (Ai hw (Ai (Er (SV.pv (iV rt))) (Ai (Er (SV.ls 1 n)) (Ai (Er (SV.ls 0 s.length)) (Ai (Er (SV.pv (iV tn))) (Ai (Er (SV.pv (iV td))) (Ai hin (Ai (Er (SV.pv (iV rt))) (Ai (Er (SV.ls 1 n)) (Ai (Er (SV.ls 0 s.length)) (Ai (Er (SV.pv (iV tn))) (Ai (Er (SV.pv (iV td))) (Ai (Er (SV.pv (iV rt))) (Ai (Er (SV.ls 1 n)) (Ai (Er (SV.ls 0 s.length)) (Ai (Er (SV.pv (iV tn))) (Ai (Er (SV.pv (iV td))) (Ai (qb2 hk) (Ai (Er (SV.pv (iV rt))) (Ai (Er (SV.ls 1 n)) (Ai (Er (SV.ls 0 s.length)) (Ai (Er (SV.pv (iV tn))) (Ai (Er (SV.pv (iV td))) (Ai hl (Ai (Eq.refl (List.map (SV.ren (qat [0,1] 7)) [.ag [.pv (iV rt),.ls 1 n],qaq 0 s,.pv (qaa tn td),.pv (iV (p.b)),.pv (iV (v))])) (Ai (qak (qat [0,1] 7) (qgQ l n s)) (Ai (Er (SV.pv (iV rt))) (Ai (Er (SV.ls 1 n)) (Ai (Er (SV.ls 0 s.length)) (Ai (Er (SV.pv (iV tn))) (Ai (Er (SV.pv (iV td))) (Ai hin (Ai (Er (SV.pv (iV rt))) (Ai (Er (SV.ls 1 n)) (Ai (Er (SV.ls 0 s.length)) (Ai (Er (SV.pv (iV tn))) (Ai (Er (SV.pv (iV td))) (Ai (Er (SV.pv (iV rt))) (Ai (Er (SV.ls 1 n)) (Ai (Er (SV.ls 0 s.length)) (Ai (Er (SV.pv (iV tn))) (Ai (Er (SV.pv (iV td))) (Ai (qmI hs x) (Ai (qml hs) (Ai (Er (SV.pv (iV rt))) (Ai (Er (SV.ls 1 n)) (Ai (Er (SV.ls 0 s.length)) (Ai (Er (SV.pv (iV tn))) (Ai (Er (SV.pv (iV td))) tI))))))))))))))))))))))))))))))))))))))))))))))))))))))))))))))))) (by kernel_rfl)
theorem qu4 {rt x z v i0 k0 tn td:Int} {s l n1:List Pt} {p q:Pt} {n:Nat} {p1 q1 p2:Pt} (h0:decide (z<0)=false) (h1:decide (v<0)=false) (hk:l[z.toNat]?=some p) (hin:0≤z∧z<(n:Int)) (hm:l[v.toNat]?=some q) (hjn:0≤v∧v<(n:Int)) (hp:s[i0.toNat]?=some p1) (hpn:0≤i0∧i0<(s.length:Int)) (hq:s[k0.toNat]?=some q1) (hqn:0≤k0∧k0<(s.length:Int)) (ha:Fn 43 1 [qaq 0 s,.pv (iV (p.id))] [(0,0,qag s)] (.pv (iV (i0))) 0 []) (hb:Fn 43 1 [qaq 0 s,.pv (iV (q.id))] [(0,0,qag s)] (.pv (iV (k0))) 0 []) (hw:Pure Try.prog 111 #[ptV p1,ptV q1,qaa tn td] (.bool false)) (hl:FnO Try.prog 102 1 2 [.ag [.pv (iV rt),.ls 1 n],qaq 0 s,.pv (qaa tn td),.pv (iV (z)),.pv (iV (q.a))] (qgQ l n s) (.pv (iV (x))) 0 [(1,0,.row 26 3 n (qam n1))]) (hs:n1[v.toNat]?=some p2) :
 FnO Try.prog 102 1 2 [.ag [.pv (iV rt),.ls 1 n],qaq 0 s,.pv (qaa tn td),.pv (iV (z)),.pv (iV (v))] (qgQ l n s) (.pv (iV (v))) 0 [(1,0,.row 26 3 n (qam (n1.set v.toNat ⟨p2.id,x,p2.b⟩)))]:=
 qaz 300 [] [.t false,.t false,.md,.r (iV p.id),.f [0] [qaq 0 s,.pv (iV (p.id))] [(0,0,qag s)] (.pv (iV (i0))) 0 [],.r (ptV p1),.r (iV q.id),.f [0] [qaq 0 s,.pv (iV (q.id))] [(0,0,qag s)] (.pv (iV (k0))) 0 [],.r (ptV q1),.r (.bool false),.gh [(2,0),(2,1),(3,0),(4,0),(4,1)],.r (iV q.a),.fo 1 [0,1] [.ag [.pv (iV rt),.ls 1 n],qaq 0 s,.pv (qaa tn td),.pv (iV (z)),.pv (iV (q.a))] (qgQ l n s) (.pv (iV (x))) 0 [(1,0,.row 26 3 n (qam n1))],.w (qam (n1.set v.toNat ⟨p2.id,x,p2.b⟩))]
  (qak (qaA []) [(1,0,.row 26 3 n (qam (n1.set v.toNat ⟨p2.id,x,p2.b⟩)))]) (Ai h0 (Ai h1 (Ai hin (Ai (qaB hk) (Ai ha (Ai (Eq.refl (List.map (SV.ren (qat [0] 5)) [qaq 0 s,.pv (iV (p.id))])) (Ai (qak (qat [0] 5) [(0,0,qag s)]) (Ai hpn (Ai (qbH hp) (Ai hjn (Ai (qaB hm) (Ai hb (Ai (Eq.refl (List.map (SV.ren (qat [0] 5)) [qaq 0 s,.pv (iV (q.id))])) (Ai (qak (qat [0] 5) [(0,0,qag s)]) (Ai hqn (Ai (qbH hq) (Ai hw (Ai (Er (SV.pv (iV rt))) (Ai (Er (SV.ls 1 n)) (Ai (Er (SV.ls 0 s.length)) (Ai (Er (SV.pv (iV tn))) (Ai (Er (SV.pv (iV td))) (Ai hjn (Ai (Er (SV.pv (iV rt))) (Ai (Er (SV.ls 1 n)) (Ai (Er (SV.ls 0 s.length)) (Ai (Er (SV.pv (iV tn))) (Ai (Er (SV.pv (iV td))) (Ai (Er (SV.pv (iV rt))) (Ai (Er (SV.ls 1 n)) (Ai (Er (SV.ls 0 s.length)) (Ai (Er (SV.pv (iV tn))) (Ai (Er (SV.pv (iV td))) (Ai (qbO hm) (Ai (Er (SV.pv (iV rt))) (Ai (Er (SV.ls 1 n)) (Ai (Er (SV.ls 0 s.length)) (Ai (Er (SV.pv (iV tn))) (Ai (Er (SV.pv (iV td))) (Ai hl (Ai (Eq.refl (List.map (SV.ren (qat [0,1] 7)) [.ag [.pv (iV rt),.ls 1 n],qaq 0 s,.pv (qaa tn td),.pv (iV (z)),.pv (iV (q.a))])) (Ai (qak (qat [0,1] 7) (qgQ l n s)) (Ai (Er (SV.pv (iV rt))) (Ai (Er (SV.ls 1 n)) (Ai (Er (SV.ls 0 s.length)) (Ai (Er (SV.pv (iV tn))) (Ai (Er (SV.pv (iV td))) (Ai hjn (Ai (Er (SV.pv (iV rt))) (Ai (Er (SV.ls 1 n)) (Ai (Er (SV.ls 0 s.length)) (Ai (Er (SV.pv (iV tn))) (Ai (Er (SV.pv (iV td))) (Ai (Er (SV.pv (iV rt))) (Ai (Er (SV.ls 1 n)) (Ai (Er (SV.ls 0 s.length)) (Ai (Er (SV.pv (iV tn))) (Ai (Er (SV.pv (iV td))) (Ai (qnM hs x) (Ai (qmi hs) (Ai (Er (SV.pv (iV rt))) (Ai (Er (SV.ls 1 n)) (Ai (Er (SV.ls 0 s.length)) (Ai (Er (SV.pv (iV tn))) (Ai (Er (SV.pv (iV td))) tI))))))))))))))))))))))))))))))))))))))))))))))))))))))))))))))))) (by kernel_rfl)
end Go.Proofs.Ytalnjplghagbpaa

namespace Go.Proofs.Ytalnjplghagbpaa
set_option maxRecDepth 100000
open Go.RowKit
theorem qjW:∀ n:Nat,qcT [Value.bool false] n=zbV (List.replicate n false)
 | 0=>rfl
 | n+1=>by rw[qcT,qjW n];rfl
theorem qcW (n:Nat):some (SV.row 4 1 n (qcT [Value.bool false] n))=some (SV.row 4 1 n (zbV (List.replicate n false))):=by rw[qjW]
abbrev qly (bs:List Bool) (g:List Int) (l:List Pt):HpL:=[(3,0,.ls 0 l.length),(3,1,.ls 1 l.length),(3,2,.ls 2 g.length),(1,0,.row 4 1 l.length (zbV bs)),(2,0,.row 3 1 g.length (ziV g)),(0,0,qac l)]
abbrev qn9 (bs:List Bool) (g:List Int) (l:List Pt):HpL:=[(3,0,.ls 0 l.length),(3,1,.ls 1 l.length),(3,2,.ls 2 g.length),(1,0,.row 4 1 l.length (zbV bs)),(2,0,.row 3 1 g.length (ziV g))]
theorem qo8 {z:Int} {l:List Pt} {g:List Int} {bs:List Bool} (h0:(z==(-1))=true) :
 FnO Try.prog 83 1 4 [.pp 3 0,.pv (iV (z))] (qly bs g l) (.pv (.bool true)) 0 (qn9 bs g l):=
 qaz 300 [] [.t true]
  (qak (qaA []) (qn9 bs g l)) (Ai h0 tI) (by kernel_rfl)
theorem qoL {z:Int} {l:List Pt} {g:List Int} {bs:List Bool} (h0:(z==(-1))=false) (h1:decide (z<0)=true) :
 FnO Try.prog 83 1 4 [.pp 3 0,.pv (iV (z))] (qly bs g l) (.pv (.bool false)) 0 (qn9 bs g l):=
 qaz 300 [] [.t false,.t true]
  (qak (qaA []) (qn9 bs g l)) (Ai h0 (Ai h1 tI)) (by kernel_rfl)
theorem qqY {z:Int} {l:List Pt} {g:List Int} {bs:List Bool} (h0:(z==(-1))=false) (h1:decide (z<0)=false) (h2:decide (z≥(l.length:Int))=true) :
 FnO Try.prog 83 1 4 [.pp 3 0,.pv (iV (z))] (qly bs g l) (.pv (.bool false)) 0 (qn9 bs g l):=
 qaz 300 [] [.t false,.t false,.t true]
  (qak (qaA []) (qn9 bs g l)) (Ai h0 (Ai h1 (Ai h2 tI))) (by kernel_rfl)
theorem qmW {z:Int} {l:List Pt} {g:List Int} {bs:List Bool} (h0:(z==(-1))=false) (h1:decide (z<0)=false) (h2:decide (z≥(l.length:Int))=false) (hin:0≤z∧z<(l.length:Int)) (hs:bs[z.toNat]?=some true) :
 FnO Try.prog 83 1 4 [.pp 3 0,.pv (iV (z))] (qly bs g l) (.pv (.bool false)) 0 (qn9 bs g l):=
 qaz 300 [] [.t false,.t false,.t false,.r (.bool true)]
  (qak (qaA []) (qn9 bs g l)) (Ai h0 (Ai h1 (Ai h2 (Ai hin (Ai (qgz hs) tI))))) (by kernel_rfl)
abbrev qfg (bs:List Bool) (g:List Int) (l:List Pt) (z:Int):HpL:=[(3,0,.ls 0 l.length),(3,1,.ls 1 l.length),(3,2,.ls 2 g.length),(1,0,.row 4 1 l.length (zbV (bs.set z.toNat true))),(2,0,.row 3 1 g.length (ziV g)),(0,0,qac l)]
abbrev qhc (bs1:List Bool) (c1:List Int) (l:List Pt):HpL:=[(3,0,.ls 0 l.length),(3,1,.ls 1 l.length),(3,2,.ls 4 c1.length),(1,0,.row 4 1 l.length (zbV bs1)),(4,0,.row 3 1 c1.length (ziV c1))]
theorem qrM {z:Int} {l:List Pt} {p:Pt} {g c1:List Int} {bs bs1:List Bool} (h0:(z==(-1))=false) (h1:decide (z<0)=false) (h2:decide (z≥(l.length:Int))=false) (hin:0≤z∧z<(l.length:Int)) (hs:bs[z.toNat]?=some false) (hb:z.toNat<bs.length) (hk:l[z.toNat]?=some p) (hl:FnO Try.prog 83 1 4 [.pp 3 0,.pv (iV (p.a))] (qfg bs g l z) (.pv (.bool false)) 1 (qhc bs1 c1 l)) :
 FnO Try.prog 83 1 4 [.pp 3 0,.pv (iV (z))] (qly bs g l) (.pv (.bool false)) 1 (qhc bs1 c1 l):=
 qaz 300 [] [.t false,.t false,.t false,.r (.bool false),.w (zbV (bs.set z.toNat true)),.r (iV p.a),.fo 1 [0,1,2,3] [.pp 3 0,.pv (iV (p.a))] (qfg bs g l z) (.pv (.bool false)) 1 (qhc bs1 c1 l),.k]
  (qak (qaA []) (qhc bs1 c1 l)) (Ai h0 (Ai h1 (Ai h2 (Ai hin (Ai (qgz hs) (Ai hin (Ai (qq5 bs z.toNat true hb) (Ai (qej bs z.toNat hb) (Ai hin (Ai (qbO hk) (Ai hl (Ai (Eq.refl (List.map (SV.ren (qat [0,1,2,3] 4)) [.pp 3 0,.pv (iV (p.a))])) (Ai (qak (qat [0,1,2,3] 4) (qfg bs g l z)) tI))))))))))))) (by kernel_rfl)
abbrev qox (bs1:List Bool) (g:List Int) (l:List Pt):HpL:=[(3,0,.ls 0 l.length),(3,1,.ls 1 l.length),(3,2,.ls 2 g.length),(1,0,.row 4 1 l.length (zbV bs1)),(2,0,.row 3 1 g.length (ziV g))]
theorem qsB {z:Int} {l:List Pt} {p:Pt} {g:List Int} {bs bs1:List Bool} (h0:(z==(-1))=false) (h1:decide (z<0)=false) (h2:decide (z≥(l.length:Int))=false) (hin:0≤z∧z<(l.length:Int)) (hs:bs[z.toNat]?=some false) (hb:z.toNat<bs.length) (hk:l[z.toNat]?=some p) (hl:FnO Try.prog 83 1 4 [.pp 3 0,.pv (iV (p.a))] (qfg bs g l z) (.pv (.bool false)) 0 (qox bs1 g l)) :
 FnO Try.prog 83 1 4 [.pp 3 0,.pv (iV (z))] (qly bs g l) (.pv (.bool false)) 0 (qox bs1 g l):=
 qaz 300 [] [.t false,.t false,.t false,.r (.bool false),.w (zbV (bs.set z.toNat true)),.r (iV p.a),.fo 1 [0,1,2,3] [.pp 3 0,.pv (iV (p.a))] (qfg bs g l z) (.pv (.bool false)) 0 (qox bs1 g l),.k]
  (qak (qaA []) (qox bs1 g l)) (Ai h0 (Ai h1 (Ai h2 (Ai hin (Ai (qgz hs) (Ai hin (Ai (qq5 bs z.toNat true hb) (Ai (qej bs z.toNat hb) (Ai hin (Ai (qbO hk) (Ai hl (Ai (Eq.refl (List.map (SV.ren (qat [0,1,2,3] 4)) [.pp 3 0,.pv (iV (p.a))])) (Ai (qak (qat [0,1,2,3] 4) (qfg bs g l z)) tI))))))))))))) (by kernel_rfl)
abbrev qok (bs2:List Bool) (c2:List Int) (l:List Pt):HpL:=[(3,0,.ls 0 l.length),(3,1,.ls 1 l.length),(3,2,.ls 4 c2.length),(1,0,.row 4 1 l.length (zbV bs2)),(4,0,.row 3 1 c2.length (ziV c2))]
abbrev qh9 (bs1:List Bool) (c1:List Int) (l:List Pt) (z:Int):HpL:=[(3,0,.ls 0 l.length),(3,1,.ls 1 l.length),(3,2,.ls 2 (c1.length+1)),(1,0,.row 4 1 l.length (zbV bs1)),(2,0,.row 3 1 (c1.length+1) (ziV c1++[iV z])),(0,0,qac l)]
theorem qtM {z:Int} {l:List Pt} {p:Pt} {g c1 c2:List Int} {w:Bool} {bs bs1 bs2:List Bool} (h0:(z==(-1))=false) (h1:decide (z<0)=false) (h2:decide (z≥(l.length:Int))=false) (hin:0≤z∧z<(l.length:Int)) (hs:bs[z.toNat]?=some false) (hb:z.toNat<bs.length) (hk:l[z.toNat]?=some p) (hl:FnO Try.prog 83 1 4 [.pp 3 0,.pv (iV (p.a))] (qfg bs g l z) (.pv (.bool true)) 1 (qhc bs1 c1 l)) (hn:c1.length+1≤1000000) (hr:FnO Try.prog 83 1 4 [.pp 3 0,.pv (iV (p.b))] (qh9 bs1 c1 l z) (.pv (.bool w)) 1 (qok bs2 c2 l)) :
 FnO Try.prog 83 1 4 [.pp 3 0,.pv (iV (z))] (qly bs g l) (.pv (.bool w)) 1 (qok bs2 c2 l):=
 qaz 300 [(4,7)] [.t false,.t false,.t false,.r (.bool false),.w (zbV (bs.set z.toNat true)),.r (iV p.a),.fo 1 [0,1,2,3] [.pp 3 0,.pv (iV (p.a))] (qfg bs g l z) (.pv (.bool true)) 1 (qhc bs1 c1 l),.k,.r (iV p.b),.fo 1 [0,1,6,3] [.pp 3 0,.pv (iV (p.b))] (qh9 bs1 c1 l z) (.pv (.bool w)) 1 (qok bs2 c2 l)]
  (qak (qaA [(4,7)]) (qok bs2 c2 l)) (Ai h0 (Ai h1 (Ai h2 (Ai hin (Ai (qgz hs) (Ai hin (Ai (qq5 bs z.toNat true hb) (Ai (qej bs z.toNat hb) (Ai hin (Ai (qbO hk) (Ai hl (Ai (Eq.refl (List.map (SV.ren (qat [0,1,2,3] 4)) [.pp 3 0,.pv (iV (p.a))])) (Ai (qak (qat [0,1,2,3] 4) (qfg bs g l z)) (Ai hn (Ai hin (Ai (qb2 hk) (Ai hr (Ai (Eq.refl (List.map (SV.ren (qat [0,1,6,3] 7)) [.pp 3 0,.pv (iV (p.b))])) (Ai (qak (qat [0,1,6,3] 7) (qh9 bs1 c1 l z)) tI))))))))))))))))))) (by kernel_rfl)
theorem qtA {z:Int} {l:List Pt} {p:Pt} {g c1:List Int} {w:Bool} {bs bs1 bs2:List Bool} (h0:(z==(-1))=false) (h1:decide (z<0)=false) (h2:decide (z≥(l.length:Int))=false) (hin:0≤z∧z<(l.length:Int)) (hs:bs[z.toNat]?=some false) (hb:z.toNat<bs.length) (hk:l[z.toNat]?=some p) (hl:FnO Try.prog 83 1 4 [.pp 3 0,.pv (iV (p.a))] (qfg bs g l z) (.pv (.bool true)) 1 (qhc bs1 c1 l)) (hn:c1.length+1≤1000000) (hr:FnO Try.prog 83 1 4 [.pp 3 0,.pv (iV (p.b))] (qh9 bs1 c1 l z) (.pv (.bool w)) 0 [(3,0,.ls 0 l.length),(3,1,.ls 1 l.length),(3,2,.ls 2 (c1.length+1)),(1,0,.row 4 1 l.length (zbV bs2)),(2,0,.row 3 1 (c1.length+1) (ziV c1++[iV z]))]) :
 FnO Try.prog 83 1 4 [.pp 3 0,.pv (iV (z))] (qly bs g l) (.pv (.bool w)) 1 [(3,0,.ls 0 l.length),(3,1,.ls 1 l.length),(3,2,.ls 4 (c1.length+1)),(1,0,.row 4 1 l.length (zbV bs2)),(4,0,.row 3 1 (c1.length+1) (ziV c1++[iV z]))]:=
 qaz 300 [(4,6)] [.t false,.t false,.t false,.r (.bool false),.w (zbV (bs.set z.toNat true)),.r (iV p.a),.fo 1 [0,1,2,3] [.pp 3 0,.pv (iV (p.a))] (qfg bs g l z) (.pv (.bool true)) 1 (qhc bs1 c1 l),.k,.r (iV p.b),.fo 1 [0,1,6,3] [.pp 3 0,.pv (iV (p.b))] (qh9 bs1 c1 l z) (.pv (.bool w)) 0 [(3,0,.ls 0 l.length),(3,1,.ls 1 l.length),(3,2,.ls 2 (c1.length+1)),(1,0,.row 4 1 l.length (zbV bs2)),(2,0,.row 3 1 (c1.length+1) (ziV c1++[iV z]))]]
  (qak (qaA [(4,6)]) [(3,0,.ls 0 l.length),(3,1,.ls 1 l.length),(3,2,.ls 4 (c1.length+1)),(1,0,.row 4 1 l.length (zbV bs2)),(4,0,.row 3 1 (c1.length+1) (ziV c1++[iV z]))]) (Ai h0 (Ai h1 (Ai h2 (Ai hin (Ai (qgz hs) (Ai hin (Ai (qq5 bs z.toNat true hb) (Ai (qej bs z.toNat hb) (Ai hin (Ai (qbO hk) (Ai hl (Ai (Eq.refl (List.map (SV.ren (qat [0,1,2,3] 4)) [.pp 3 0,.pv (iV (p.a))])) (Ai (qak (qat [0,1,2,3] 4) (qfg bs g l z)) (Ai hn (Ai hin (Ai (qb2 hk) (Ai hr (Ai (Eq.refl (List.map (SV.ren (qat [0,1,6,3] 7)) [.pp 3 0,.pv (iV (p.b))])) (Ai (qak (qat [0,1,6,3] 7) (qh9 bs1 c1 l z)) tI))))))))))))))))))) (by kernel_rfl)
abbrev qiK (bs1:List Bool) (g:List Int) (l:List Pt) (z:Int):HpL:=[(3,0,.ls 0 l.length),(3,1,.ls 1 l.length),(3,2,.ls 2 (g.length+1)),(1,0,.row 4 1 l.length (zbV bs1)),(2,0,.row 3 1 (g.length+1) (ziV g++[iV z])),(0,0,qac l)]
theorem qrJ {z:Int} {l:List Pt} {p:Pt} {g c2:List Int} {w:Bool} {bs bs1 bs2:List Bool} (h0:(z==(-1))=false) (h1:decide (z<0)=false) (h2:decide (z≥(l.length:Int))=false) (hin:0≤z∧z<(l.length:Int)) (hs:bs[z.toNat]?=some false) (hb:z.toNat<bs.length) (hk:l[z.toNat]?=some p) (hl:FnO Try.prog 83 1 4 [.pp 3 0,.pv (iV (p.a))] (qfg bs g l z) (.pv (.bool true)) 0 (qox bs1 g l)) (hn:g.length+1≤1000000) (hr:FnO Try.prog 83 1 4 [.pp 3 0,.pv (iV (p.b))] (qiK bs1 g l z) (.pv (.bool w)) 1 (qok bs2 c2 l)) :
 FnO Try.prog 83 1 4 [.pp 3 0,.pv (iV (z))] (qly bs g l) (.pv (.bool w)) 1 (qok bs2 c2 l):=
 qaz 300 [(4,6)] [.t false,.t false,.t false,.r (.bool false),.w (zbV (bs.set z.toNat true)),.r (iV p.a),.fo 1 [0,1,2,3] [.pp 3 0,.pv (iV (p.a))] (qfg bs g l z) (.pv (.bool true)) 0 (qox bs1 g l),.k,.r (iV p.b),.fo 1 [0,1,5,3] [.pp 3 0,.pv (iV (p.b))] (qiK bs1 g l z) (.pv (.bool w)) 1 (qok bs2 c2 l)]
  (qak (qaA [(4,6)]) (qok bs2 c2 l)) (Ai h0 (Ai h1 (Ai h2 (Ai hin (Ai (qgz hs) (Ai hin (Ai (qq5 bs z.toNat true hb) (Ai (qej bs z.toNat hb) (Ai hin (Ai (qbO hk) (Ai hl (Ai (Eq.refl (List.map (SV.ren (qat [0,1,2,3] 4)) [.pp 3 0,.pv (iV (p.a))])) (Ai (qak (qat [0,1,2,3] 4) (qfg bs g l z)) (Ai hn (Ai hin (Ai (qb2 hk) (Ai hr (Ai (Eq.refl (List.map (SV.ren (qat [0,1,5,3] 6)) [.pp 3 0,.pv (iV (p.b))])) (Ai (qak (qat [0,1,5,3] 6) (qiK bs1 g l z)) tI))))))))))))))))))) (by kernel_rfl)
theorem qti {z:Int} {l:List Pt} {p:Pt} {g:List Int} {w:Bool} {bs bs1 bs2:List Bool} (h0:(z==(-1))=false) (h1:decide (z<0)=false) (h2:decide (z≥(l.length:Int))=false) (hin:0≤z∧z<(l.length:Int)) (hs:bs[z.toNat]?=some false) (hb:z.toNat<bs.length) (hk:l[z.toNat]?=some p) (hl:FnO Try.prog 83 1 4 [.pp 3 0,.pv (iV (p.a))] (qfg bs g l z) (.pv (.bool true)) 0 (qox bs1 g l)) (hn:g.length+1≤1000000) (hr:FnO Try.prog 83 1 4 [.pp 3 0,.pv (iV (p.b))] (qiK bs1 g l z) (.pv (.bool w)) 0 [(3,0,.ls 0 l.length),(3,1,.ls 1 l.length),(3,2,.ls 2 (g.length+1)),(1,0,.row 4 1 l.length (zbV bs2)),(2,0,.row 3 1 (g.length+1) (ziV g++[iV z]))]) :
 FnO Try.prog 83 1 4 [.pp 3 0,.pv (iV (z))] (qly bs g l) (.pv (.bool w)) 1 [(3,0,.ls 0 l.length),(3,1,.ls 1 l.length),(3,2,.ls 4 (g.length+1)),(1,0,.row 4 1 l.length (zbV bs2)),(4,0,.row 3 1 (g.length+1) (ziV g++[iV z]))]:=
 qaz 300 [(4,5)] [.t false,.t false,.t false,.r (.bool false),.w (zbV (bs.set z.toNat true)),.r (iV p.a),.fo 1 [0,1,2,3] [.pp 3 0,.pv (iV (p.a))] (qfg bs g l z) (.pv (.bool true)) 0 (qox bs1 g l),.k,.r (iV p.b),.fo 1 [0,1,5,3] [.pp 3 0,.pv (iV (p.b))] (qiK bs1 g l z) (.pv (.bool w)) 0 [(3,0,.ls 0 l.length),(3,1,.ls 1 l.length),(3,2,.ls 2 (g.length+1)),(1,0,.row 4 1 l.length (zbV bs2)),(2,0,.row 3 1 (g.length+1) (ziV g++[iV z]))]]
  (qak (qaA [(4,5)]) [(3,0,.ls 0 l.length),(3,1,.ls 1 l.length),(3,2,.ls 4 (g.length+1)),(1,0,.row 4 1 l.length (zbV bs2)),(4,0,.row 3 1 (g.length+1) (ziV g++[iV z]))]) (Ai h0 (Ai h1 (Ai h2 (Ai hin (Ai (qgz hs) (Ai hin (Ai (qq5 bs z.toNat true hb) (Ai (qej bs z.toNat hb) (Ai hin (Ai (qbO hk) (Ai hl (Ai (Eq.refl (List.map (SV.ren (qat [0,1,2,3] 4)) [.pp 3 0,.pv (iV (p.a))])) (Ai (qak (qat [0,1,2,3] 4) (qfg bs g l z)) (Ai hn (Ai hin (Ai (qb2 hk) (Ai hr (Ai (Eq.refl (List.map (SV.ren (qat [0,1,5,3] 6)) [.pp 3 0,.pv (iV (p.b))])) (Ai (qak (qat [0,1,5,3] 6) (qiK bs1 g l z)) tI))))))))))))))))))) (by kernel_rfl)
abbrev qi0 (l:List Pt):HpL:=[(3,0,.ls 0 l.length),(3,1,.ls 1 l.length),(3,2,.ls 2 0),(1,0,.row 4 1 l.length (zbV (List.replicate l.length false))),(2,0,.row 3 1 0 ([])),(0,0,qac l)]
theorem qsw {rt:Int} {l:List Pt} {c1:List Int} {bs1:List Bool} (m0:0≤(l.length:Int)) (m1:(l.length:Int)≤1000000) (hf:FnO Try.prog 83 1 4 [.pp 3 0,.pv (iV (rt))] (qi0 l) (.pv (.bool false)) 1 (qhc bs1 c1 l)) :
 Fn 45 1 [trS 0 rt l] [(0,0,qac l)] (.tu [.one (.ls 1 c1.length),.one (.pv (.bool false))]) 1 [(1,0,.row 3 1 c1.length (ziV c1))]:=
 Fz [(1,5)] [.md,.lz false 3 2 3 1,.fo 1 [0,2,4,3] [.pp 3 0,.pv (iV (rt))] (qi0 l) (.pv (.bool false)) 1 (qhc bs1 c1 l)]
  (qak (qaA [(1,5)]) [(1,0,.row 3 1 c1.length (ziV c1))]) (Ai m0 (Ai (Eq.refl (l.length:Int)) (Ai m1 (Ai hf (Ai (Eq.refl (List.map (SV.ren (qat [0,2,4,3] 5)) [.pp 3 0,.pv (iV (rt))])) (Ai (Ai (Er (SV.ls 0 l.length)) (Ai (Er (SV.ls 2 l.length)) (Ai (Er (SV.ls 4 0)) (Ai (qcW l.length) (Ai (Er (SV.row 3 1 0 [])) (Ai (Er (qac l)) tI)))))) tI))))))
theorem qkO {rt:Int} {l:List Pt} {c1:List Int} {bs1:List Bool} (m0:0≤(l.length:Int)) (m1:(l.length:Int)≤1000000) (hf:FnO Try.prog 83 1 4 [.pp 3 0,.pv (iV (rt))] (qi0 l) (.pv (.bool true)) 1 (qhc bs1 c1 l)) (he:(((c1.length:Int):Int)==(l.length:Int))=true) :
 Fn 45 1 [trS 0 rt l] [(0,0,qac l)] (.tu [.one (.ls 1 c1.length),.one (.pv (.bool true))]) 1 [(1,0,.row 3 1 c1.length (ziV c1))]:=
 Fz [(1,5)] [.md,.lz false 3 2 3 1,.fo 1 [0,2,4,3] [.pp 3 0,.pv (iV (rt))] (qi0 l) (.pv (.bool true)) 1 (qhc bs1 c1 l),.t true]
  (qak (qaA [(1,5)]) [(1,0,.row 3 1 c1.length (ziV c1))]) (Ai m0 (Ai (Eq.refl (l.length:Int)) (Ai m1 (Ai hf (Ai (Eq.refl (List.map (SV.ren (qat [0,2,4,3] 5)) [.pp 3 0,.pv (iV (rt))])) (Ai (Ai (Er (SV.ls 0 l.length)) (Ai (Er (SV.ls 2 l.length)) (Ai (Er (SV.ls 4 0)) (Ai (qcW l.length) (Ai (Er (SV.row 3 1 0 [])) (Ai (Er (qac l)) tI)))))) (Ai he tI)))))))
theorem qiE {rt:Int} {l:List Pt} {c1:List Int} {bs1:List Bool} (m0:0≤(l.length:Int)) (m1:(l.length:Int)≤1000000) (hf:FnO Try.prog 83 1 4 [.pp 3 0,.pv (iV (rt))] (qi0 l) (.pv (.bool true)) 1 (qhc bs1 c1 l)) (he:(((c1.length:Int):Int)==(l.length:Int))=false) :
 Fn 45 1 [trS 0 rt l] [(0,0,qac l)] (.tu [.one (.ls 1 c1.length),.one (.pv (.bool false))]) 1 [(1,0,.row 3 1 c1.length (ziV c1))]:=
 Fz [(1,5)] [.md,.lz false 3 2 3 1,.fo 1 [0,2,4,3] [.pp 3 0,.pv (iV (rt))] (qi0 l) (.pv (.bool true)) 1 (qhc bs1 c1 l),.t false]
  (qak (qaA [(1,5)]) [(1,0,.row 3 1 c1.length (ziV c1))]) (Ai m0 (Ai (Eq.refl (l.length:Int)) (Ai m1 (Ai hf (Ai (Eq.refl (List.map (SV.ren (qat [0,2,4,3] 5)) [.pp 3 0,.pv (iV (rt))])) (Ai (Ai (Er (SV.ls 0 l.length)) (Ai (Er (SV.ls 2 l.length)) (Ai (Er (SV.ls 4 0)) (Ai (qcW l.length) (Ai (Er (SV.row 3 1 0 [])) (Ai (Er (qac l)) tI)))))) (Ai he tI)))))))
abbrev qrl (bs1:List Bool) (l:List Pt):HpL:=[(3,0,.ls 0 l.length),(3,1,.ls 1 l.length),(3,2,.ls 2 0),(1,0,.row 4 1 l.length (zbV bs1)),(2,0,.row 3 1 0 ([]))]
theorem qrY {rt:Int} {l:List Pt} {bs1:List Bool} (m0:0≤(l.length:Int)) (m1:(l.length:Int)≤1000000) (hf:FnO Try.prog 83 1 4 [.pp 3 0,.pv (iV (rt))] (qi0 l) (.pv (.bool false)) 0 (qrl bs1 l)) :
 Fn 45 1 [trS 0 rt l] [(0,0,qac l)] (.tu [.one (.ls 1 0),.one (.pv (.bool false))]) 1 [(1,0,.row 3 1 0 ([]))]:=
 Fz [(1,4)] [.md,.lz false 3 2 3 1,.fo 1 [0,2,4,3] [.pp 3 0,.pv (iV (rt))] (qi0 l) (.pv (.bool false)) 0 (qrl bs1 l)]
  (qak (qaA [(1,4)]) [(1,0,.row 3 1 0 ([]))]) (Ai m0 (Ai (Eq.refl (l.length:Int)) (Ai m1 (Ai hf (Ai (Eq.refl (List.map (SV.ren (qat [0,2,4,3] 5)) [.pp 3 0,.pv (iV (rt))])) (Ai (Ai (Er (SV.ls 0 l.length)) (Ai (Er (SV.ls 2 l.length)) (Ai (Er (SV.ls 4 0)) (Ai (qcW l.length) (Ai (Er (SV.row 3 1 0 [])) (Ai (Er (qac l)) tI)))))) tI))))))
theorem qj5 {rt:Int} {l:List Pt} {bs1:List Bool} (m0:0≤(l.length:Int)) (m1:(l.length:Int)≤1000000) (hf:FnO Try.prog 83 1 4 [.pp 3 0,.pv (iV (rt))] (qi0 l) (.pv (.bool true)) 0 (qrl bs1 l)) (he:((0:Int)==(l.length:Int))=true) :
 Fn 45 1 [trS 0 rt l] [(0,0,qac l)] (.tu [.one (.ls 1 0),.one (.pv (.bool true))]) 1 [(1,0,.row 3 1 0 ([]))]:=
 Fz [(1,4)] [.md,.lz false 3 2 3 1,.fo 1 [0,2,4,3] [.pp 3 0,.pv (iV (rt))] (qi0 l) (.pv (.bool true)) 0 (qrl bs1 l),.t true]
  (qak (qaA [(1,4)]) [(1,0,.row 3 1 0 ([]))]) (Ai m0 (Ai (Eq.refl (l.length:Int)) (Ai m1 (Ai hf (Ai (Eq.refl (List.map (SV.ren (qat [0,2,4,3] 5)) [.pp 3 0,.pv (iV (rt))])) (Ai (Ai (Er (SV.ls 0 l.length)) (Ai (Er (SV.ls 2 l.length)) (Ai (Er (SV.ls 4 0)) (Ai (qcW l.length) (Ai (Er (SV.row 3 1 0 [])) (Ai (Er (qac l)) tI)))))) (Ai he tI)))))))
theorem qiZ {rt:Int} {l:List Pt} {bs1:List Bool} (m0:0≤(l.length:Int)) (m1:(l.length:Int)≤1000000) (hf:FnO Try.prog 83 1 4 [.pp 3 0,.pv (iV (rt))] (qi0 l) (.pv (.bool true)) 0 (qrl bs1 l)) (he:((0:Int)==(l.length:Int))=false) :
 Fn 45 1 [trS 0 rt l] [(0,0,qac l)] (.tu [.one (.ls 1 0),.one (.pv (.bool false))]) 1 [(1,0,.row 3 1 0 ([]))]:=
 Fz [(1,4)] [.md,.lz false 3 2 3 1,.fo 1 [0,2,4,3] [.pp 3 0,.pv (iV (rt))] (qi0 l) (.pv (.bool true)) 0 (qrl bs1 l),.t false]
  (qak (qaA [(1,4)]) [(1,0,.row 3 1 0 ([]))]) (Ai m0 (Ai (Eq.refl (l.length:Int)) (Ai m1 (Ai hf (Ai (Eq.refl (List.map (SV.ren (qat [0,2,4,3] 5)) [.pp 3 0,.pv (iV (rt))])) (Ai (Ai (Er (SV.ls 0 l.length)) (Ai (Er (SV.ls 2 l.length)) (Ai (Er (SV.ls 4 0)) (Ai (qcW l.length) (Ai (Er (SV.row 3 1 0 [])) (Ai (Er (qac l)) tI)))))) (Ai he tI)))))))
theorem qq0 {z v:Int} {l:List Pt} {n:Nat} (h0:(z==(-1))=true) :
 FnO Try.prog 54 0 1 [.ls 0 n,.pv (iV (z)),.pv (iV (v))] [(0,0,.row 26 3 n (qam l))] (.pv (.tuple #[iV (-1),iV (-1)])) 0 [(0,0,.row 26 3 n (qam l))]:=
 qaz 300 [] [.t true]
  (qak (qaA []) [(0,0,.row 26 3 n (qam l))]) (Ai h0 tI) (by kernel_rfl)
theorem qpF {x y z v:Int} {l n1:List Pt} {p:Pt} {n:Nat} {p2:Pt} (h0:(z==(-1))=false) (hin:0≤z∧z<(n:Int)) (hk:l[z.toNat]?=some p) (hc:decide (p.id<v)=true) (hl:FnO Try.prog 54 0 1 [.ls 0 n,.pv (iV (p.b)),.pv (iV (v))] [(0,0,.row 26 3 n (qam l))] (.pv (.tuple #[iV x,iV y])) 0 [(0,0,.row 26 3 n (qam n1))]) (hs:n1[z.toNat]?=some p2) :
 FnO Try.prog 54 0 1 [.ls 0 n,.pv (iV (z)),.pv (iV (v))] [(0,0,.row 26 3 n (qam l))] (.pv (.tuple #[iV z,iV y])) 0 [(0,0,.row 26 3 n (qam (n1.set z.toNat ⟨p2.id,p2.a,x⟩)))]:=
 qaz 300 [] [.t false,.r (iV p.id),.t true,.r (iV p.b),.fo 0 [0] [.ls 0 n,.pv (iV (p.b)),.pv (iV (v))] [(0,0,.row 26 3 n (qam l))] (.pv (.tuple #[iV x,iV y])) 0 [(0,0,.row 26 3 n (qam n1))],.w (qam (n1.set z.toNat ⟨p2.id,p2.a,x⟩))]
  (qak (qaA []) [(0,0,.row 26 3 n (qam (n1.set z.toNat ⟨p2.id,p2.a,x⟩)))]) (Ai h0 (Ai hin (Ai (qaB hk) (Ai hc (Ai hin (Ai (qb2 hk) (Ai hl (Ai (Eq.refl (List.map (SV.ren (qat [0] 1)) [.ls 0 n,.pv (iV (p.b)),.pv (iV (v))])) (Ai (qak (qat [0] 1) [(0,0,.row 26 3 n (qam l))]) (Ai hin (Ai (qmI hs x) (Ai (qml hs) tI)))))))))))) (by kernel_rfl)
theorem qnJ {x y z v:Int} {l n1:List Pt} {p:Pt} {n:Nat} {p2:Pt} (h0:(z==(-1))=false) (hin:0≤z∧z<(n:Int)) (hk:l[z.toNat]?=some p) (hc:decide (p.id<v)=false) (hl:FnO Try.prog 54 0 1 [.ls 0 n,.pv (iV (p.a)),.pv (iV (v))] [(0,0,.row 26 3 n (qam l))] (.pv (.tuple #[iV x,iV y])) 0 [(0,0,.row 26 3 n (qam n1))]) (hs:n1[z.toNat]?=some p2) :
 FnO Try.prog 54 0 1 [.ls 0 n,.pv (iV (z)),.pv (iV (v))] [(0,0,.row 26 3 n (qam l))] (.pv (.tuple #[iV x,iV z])) 0 [(0,0,.row 26 3 n (qam (n1.set z.toNat ⟨p2.id,y,p2.b⟩)))]:=
 qaz 300 [] [.t false,.r (iV p.id),.t false,.r (iV p.a),.fo 0 [0] [.ls 0 n,.pv (iV (p.a)),.pv (iV (v))] [(0,0,.row 26 3 n (qam l))] (.pv (.tuple #[iV x,iV y])) 0 [(0,0,.row 26 3 n (qam n1))],.w (qam (n1.set z.toNat ⟨p2.id,y,p2.b⟩))]
  (qak (qaA []) [(0,0,.row 26 3 n (qam (n1.set z.toNat ⟨p2.id,y,p2.b⟩)))]) (Ai h0 (Ai hin (Ai (qaB hk) (Ai hc (Ai hin (Ai (qbO hk) (Ai hl (Ai (Eq.refl (List.map (SV.ren (qat [0] 1)) [.ls 0 n,.pv (iV (p.a)),.pv (iV (v))])) (Ai (qak (qat [0] 1) [(0,0,.row 26 3 n (qam l))]) (Ai hin (Ai (qnM hs y) (Ai (qmi hs) tI)))))))))))) (by kernel_rfl)
abbrev qlA (l:List Pt) (n:Nat) (s:List Pt):HpL:=[(0,0,qag s),(1,0,.row 26 3 n (qam l))]
theorem qu6 {z v tn td:Int} {s l:List Pt} {n:Nat} (h0:(z==(-1))=true) :
 FnO Try.prog 62 1 2 [.ag [.ls 1 n,.ls 0 s.length,.pv (iV tn),.pv (iV td)],.pv (iV (z)),.pv (iV (v))] (qlA l n s) (.pv (iV (v))) 0 [(1,0,.row 26 3 n (qam l))]:=
 qaz 300 [] [.t true]
  (qak (qaA []) [(1,0,.row 26 3 n (qam l))]) (Ai h0 tI) (by kernel_rfl)
theorem quY {z v tn td:Int} {s l:List Pt} {n:Nat} (h0:(z==(-1))=false) (h1:(v==(-1))=true) :
 FnO Try.prog 62 1 2 [.ag [.ls 1 n,.ls 0 s.length,.pv (iV tn),.pv (iV td)],.pv (iV (z)),.pv (iV (v))] (qlA l n s) (.pv (iV (z))) 0 [(1,0,.row 26 3 n (qam l))]:=
 qaz 300 [] [.t false,.t true]
  (qak (qaA []) [(1,0,.row 26 3 n (qam l))]) (Ai h0 (Ai h1 tI)) (by kernel_rfl)
theorem quK {x z v tn td:Int} {s l n1:List Pt} {p:Pt} {n:Nat} {p1 q1 p2:Pt} (h0:(z==(-1))=false) (h1:(v==(-1))=false) (hin:0≤z∧z<(n:Int)) (hjn:0≤v∧v<(n:Int)) (hpn:0≤z∧z<(s.length:Int)) (hqn:0≤v∧v<(s.length:Int)) (hp:s[z.toNat]?=some p1) (hq:s[v.toNat]?=some q1) (hw:Pure Try.prog 79 #[ptV p1,ptV q1,qaa tn td] (.tuple #[.bool true,iV 0])) (hk:l[z.toNat]?=some p) (hl:FnO Try.prog 62 1 2 [.ag [.ls 1 n,.ls 0 s.length,.pv (iV tn),.pv (iV td)],.pv (iV (p.b)),.pv (iV (v))] (qlA l n s) (.pv (iV (x))) 0 [(1,0,.row 26 3 n (qam n1))]) (hs:n1[z.toNat]?=some p2) :
 FnO Try.prog 62 1 2 [.ag [.ls 1 n,.ls 0 s.length,.pv (iV tn),.pv (iV td)],.pv (iV (z)),.pv (iV (v))] (qlA l n s) (.pv (iV (z))) 0 [(1,0,.row 26 3 n (qam (n1.set z.toNat ⟨p2.id,p2.a,x⟩)))]:=
 qaz 300 [] [.t false,.t false,.r (ptV p1),.r (ptV q1),.r (.tuple #[.bool true,iV 0]),.gh [(2,0),(2,1),(2,2),(2,3)],.r (iV p.b),.fo 1 [0,1] [.ag [.ls 1 n,.ls 0 s.length,.pv (iV tn),.pv (iV td)],.pv (iV (p.b)),.pv (iV (v))] (qlA l n s) (.pv (iV (x))) 0 [(1,0,.row 26 3 n (qam n1))],.w (qam (n1.set z.toNat ⟨p2.id,p2.a,x⟩))]
  (qak (qaA []) [(1,0,.row 26 3 n (qam (n1.set z.toNat ⟨p2.id,p2.a,x⟩)))]) (Ai h0 (Ai h1 (Ai hpn (Ai (qbH hp) (Ai hqn (Ai (qbH hq) (Ai hw (Ai (Er (SV.ls 1 n)) (Ai (Er (SV.ls 0 s.length)) (Ai (Er (SV.pv (iV tn))) (Ai (Er (SV.pv (iV td))) (Ai hin (Ai (Er (SV.ls 1 n)) (Ai (Er (SV.ls 0 s.length)) (Ai (Er (SV.pv (iV tn))) (Ai (Er (SV.pv (iV td))) (Ai (Er (SV.ls 1 n)) (Ai (Er (SV.ls 0 s.length)) (Ai (Er (SV.pv (iV tn))) (Ai (Er (SV.pv (iV td))) (Ai (qb2 hk) (Ai (Er (SV.ls 1 n)) (Ai (Er (SV.ls 0 s.length)) (Ai (Er (SV.pv (iV tn))) (Ai (Er (SV.pv (iV td))) (Ai hl (Ai (Eq.refl (List.map (SV.ren (qat [0,1] 3)) [.ag [.ls 1 n,.ls 0 s.length,.pv (iV tn),.pv (iV td)],.pv (iV (p.b)),.pv (iV (v))])) (Ai (qak (qat [0,1] 3) (qlA l n s)) (Ai (Er (SV.ls 1 n)) (Ai (Er (SV.ls 0 s.length)) (Ai (Er (SV.pv (iV tn))) (Ai (Er (SV.pv (iV td))) (Ai hin (Ai (Er (SV.ls 1 n)) (Ai (Er (SV.ls 0 s.length)) (Ai (Er (SV.pv (iV tn))) (Ai (Er (SV.pv (iV td))) (Ai (Er (SV.ls 1 n)) (Ai (Er (SV.ls 0 s.length)) (Ai (Er (SV.pv (iV tn))) (Ai (Er (SV.pv (iV td))) (Ai (qmI hs x) (Ai (qml hs) (Ai (Er (SV.ls 1 n)) (Ai (Er (SV.ls 0 s.length)) (Ai (Er (SV.pv (iV tn))) (Ai (Er (SV.pv (iV td))) tI))))))))))))))))))))))))))))))))))))))))))))))) (by kernel_rfl)
theorem qvP {x z v tn td:Int} {s l n1:List Pt} {q:Pt} {n:Nat} {p1 q1 p2:Pt} (h0:(z==(-1))=false) (h1:(v==(-1))=false) (hin:0≤z∧z<(n:Int)) (hjn:0≤v∧v<(n:Int)) (hpn:0≤z∧z<(s.length:Int)) (hqn:0≤v∧v<(s.length:Int)) (hp:s[z.toNat]?=some p1) (hq:s[v.toNat]?=some q1) (hw:Pure Try.prog 79 #[ptV p1,ptV q1,qaa tn td] (.tuple #[.bool false,iV 0])) (hk:l[v.toNat]?=some q) (hl:FnO Try.prog 62 1 2 [.ag [.ls 1 n,.ls 0 s.length,.pv (iV tn),.pv (iV td)],.pv (iV (z)),.pv (iV (q.a))] (qlA l n s) (.pv (iV (x))) 0 [(1,0,.row 26 3 n (qam n1))]) (hs:n1[v.toNat]?=some p2) :
 FnO Try.prog 62 1 2 [.ag [.ls 1 n,.ls 0 s.length,.pv (iV tn),.pv (iV td)],.pv (iV (z)),.pv (iV (v))] (qlA l n s) (.pv (iV (v))) 0 [(1,0,.row 26 3 n (qam (n1.set v.toNat ⟨p2.id,x,p2.b⟩)))]:=
 qaz 300 [] [.t false,.t false,.r (ptV p1),.r (ptV q1),.r (.tuple #[.bool false,iV 0]),.gh [(2,0),(2,1),(2,2),(2,3)],.r (iV q.a),.fo 1 [0,1] [.ag [.ls 1 n,.ls 0 s.length,.pv (iV tn),.pv (iV td)],.pv (iV (z)),.pv (iV (q.a))] (qlA l n s) (.pv (iV (x))) 0 [(1,0,.row 26 3 n (qam n1))],.w (qam (n1.set v.toNat ⟨p2.id,x,p2.b⟩))]
  (qak (qaA []) [(1,0,.row 26 3 n (qam (n1.set v.toNat ⟨p2.id,x,p2.b⟩)))]) (Ai h0 (Ai h1 (Ai hpn (Ai (qbH hp) (Ai hqn (Ai (qbH hq) (Ai hw (Ai (Er (SV.ls 1 n)) (Ai (Er (SV.ls 0 s.length)) (Ai (Er (SV.pv (iV tn))) (Ai (Er (SV.pv (iV td))) (Ai hjn (Ai (Er (SV.ls 1 n)) (Ai (Er (SV.ls 0 s.length)) (Ai (Er (SV.pv (iV tn))) (Ai (Er (SV.pv (iV td))) (Ai (Er (SV.ls 1 n)) (Ai (Er (SV.ls 0 s.length)) (Ai (Er (SV.pv (iV tn))) (Ai (Er (SV.pv (iV td))) (Ai (qbO hk) (Ai (Er (SV.ls 1 n)) (Ai (Er (SV.ls 0 s.length)) (Ai (Er (SV.pv (iV tn))) (Ai (Er (SV.pv (iV td))) (Ai hl (Ai (Eq.refl (List.map (SV.ren (qat [0,1] 3)) [.ag [.ls 1 n,.ls 0 s.length,.pv (iV tn),.pv (iV td)],.pv (iV (z)),.pv (iV (q.a))])) (Ai (qak (qat [0,1] 3) (qlA l n s)) (Ai (Er (SV.ls 1 n)) (Ai (Er (SV.ls 0 s.length)) (Ai (Er (SV.pv (iV tn))) (Ai (Er (SV.pv (iV td))) (Ai hjn (Ai (Er (SV.ls 1 n)) (Ai (Er (SV.ls 0 s.length)) (Ai (Er (SV.pv (iV tn))) (Ai (Er (SV.pv (iV td))) (Ai (Er (SV.ls 1 n)) (Ai (Er (SV.ls 0 s.length)) (Ai (Er (SV.pv (iV tn))) (Ai (Er (SV.pv (iV td))) (Ai (qnM hs x) (Ai (qmi hs) (Ai (Er (SV.ls 1 n)) (Ai (Er (SV.ls 0 s.length)) (Ai (Er (SV.pv (iV tn))) (Ai (Er (SV.pv (iV td))) tI))))))))))))))))))))))))))))))))))))))))))))))) (by kernel_rfl)
end Go.Proofs.Ytalnjplghagbpaa
