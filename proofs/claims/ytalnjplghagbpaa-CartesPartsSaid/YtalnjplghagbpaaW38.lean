/-
  Joined: Eo, Ep. Conditions: none.
-/
import Derived.Test.YtalnjplghagbpaaW37
import Derived.Test.YtalnjplghagbpaaW25
import Derived.Test.YtalnjplghagbpaaW19
namespace Go.Proofs.Ytalnjplghagbpaa
set_option maxRecDepth 100000
open Go.RowKit
theorem qiU {l:List Pt} (hv:Val l) {k:Nat} {p:Pt} {id:Int} (hk:l[k]?=some p) (he:p.id=id):Fn 93 1 [qaq 0 l,.pv (iV id)] [(0,0,qag l)] (.pv (.tuple #[ptV p,iV 0])) 0 []:=by
 have c:=qbp l
 rw[qcw.2 hv] at c
 exact qlx hk (qaY (qai hk)) c (qnE hv hk he)
theorem qjJ {l:List Pt} (hv:Val l) {id:Int} (hno:∀ p∈l,p.id≠id):Fn 93 1 [qaq 0 l,.pv (iV id)] [(0,0,qag l)] (.pv (.tuple #[ptV ⟨0,0,0⟩,iV 6])) 0 []:=by
 have c:=qbp l
 rw[qcw.2 hv] at c
 rcases place l hv id with ⟨k,p,hk,he⟩ | ⟨_,k,hkl,hlo,hhi⟩
 ·exact (hno p (List.mem_of_getElem? hk) he).elim
 ·exact qmX c (qoS hv hkl hlo hhi)
section
variable {s l m:List Pt} {tn td rt x:Int}
def Kno (s l:List Pt):Prop:=∀ p∈l,∃ q∈s,q.id=p.id
def ptD (s l:List Pt):List Pt:=l.map fun p=>ptI s p.id
theorem qb7:(ptD s l).length=l.length:=List.length_map ..
theorem qop (hs:Val s) (hl:l.length≤999999):Fn 77 2 [qaq 0 s,trS 1 rt l] [(0,0,qag s),(1,0,qac l)] (.pv (.bool (pT (Kno s l)))) 0 []:=by
 have step:∀ n,n≤l.length→(∀ k,k<n→∀ p,l[k]?=some p→∃ q∈s,q.id=p.id)→∀ {e:Exit} {tm2:TmL} {hp2:HpL},
  Rl 2 2 77 0 22 4 ([(2,.pp 2 0),(3,.pp 3 0),(5,.pv (iV (n:Int)))]) ([(2,0,.ls 0 s.length),(3,0,.pv (iV rt)),(3,1,.ls 1 l.length),(0,0,qag s),(1,0,qac l)]) e tm2 hp2→
  Rl 2 2 77 0 22 4 ([(2,.pp 2 0),(3,.pp 3 0),(5,.pv (iV ((0:Nat):Int)))]) ([(2,0,.ls 0 s.length),(3,0,.pv (iV rt)),(3,1,.ls 1 l.length),(0,0,qag s),(1,0,qac l)]) e tm2 hp2:=by
  intro n hn h e tm2 hp2 r
  refine RunsL.roundsZ (fun j=>[(2,.pp 2 0),(3,.pp 3 0),(5,.pv (iV (j:Int)))]) (fun _=>[(2,0,.ls 0 s.length),(3,0,.pv (iV rt)),(3,1,.ls 1 l.length),(0,0,qag s),(1,0,qac l)]) (N:=n) n 0 (Nat.zero_add _) (fun j _ hj r=>?_) r
  obtain⟨p,hp⟩:=qal (l:=l) (k:=j) (by omega)
  obtain⟨q,hq,he⟩:=h j hj p hp
  obtain⟨i,hi⟩:=List.getElem?_of_mem hq
  exact qnZ (hlt:=dt (by omega)) (hk:=hp) (hin:=⟨by omega,by omega⟩) (hat:=qj1 hs hi he) (hz:=df (by omega)) (hs:=qan (by omega)) r
 rcases qaK (fun k=>∀ p,l[k]?=some p→∃ q∈s,q.id=p.id) l.length with h | ⟨k,hk,hb,hf⟩
 ·rw[qfi (p:=Kno s l) fun p hp=>by
   obtain⟨k,hk⟩:=List.getElem?_of_mem hp
   exact h k (qai hk) p hk]
  exact qo5 (r0:=step l.length (Nat.le_refl _) h (qpd (hlt:=df (by omega))))
 ·simp only[Classical.not_forall] at hb
  obtain⟨p,hp,hb⟩:=hb
  rw[qf9 (p:=Kno s l) fun h=>hb (h p (List.mem_of_getElem? hp))]
  exact qsx (r0:=step k (Nat.le_of_lt hk) hf (qnh (hlt:=dt (by omega)) (hk:=hp) (hin:=⟨by omega,by omega⟩) (hat:=quI hs.len fun q hq e=>hb ⟨q,hq,e⟩) (hz:=by decide)))
abbrev poT (l:List Pt) (n k:Nat):List (Nat×SV):=[(2,.pp 2 0),(6,.ls 3 n),(11,.ls 1 l.length),(12,.pv (iV (l.length:Int))),(13,.pv (iV (k:Int)))]
abbrev poH (s l:List Pt) (n:Nat) (vs:List Value):List (Nat×Nat×SV):=[(2,0,.ls 0 s.length),(0,0,qag s),(1,0,qac l),(3,0,.row 80 3 n vs)]
theorem qwa (hs:Val s) (hl:l.length≤999999):(Kno s l∧Fn 60 2 [qaq 0 s,.ls 1 l.length] [(0,0,qag s),(1,0,qac l)] (.tu [.one (.ls 2 (ptD s l).length),.one (.pv (iV 0))]) 1 [(2,0,qag (ptD s l))])∨
 (¬ Kno s l∧Fn 60 2 [qaq 0 s,.ls 1 l.length] [(0,0,qag s),(1,0,qac l)] (.pv (.tuple #[.slice none 0 0,iV (6)])) 0 []):=by
 have step:∀ n,n≤l.length→(∀ k,k<n→∀ p,l[k]?=some p→∃ q∈s,q.id=p.id)→∀ {e:Exit} {tm2:TmL} {hp2:HpL},
  Rl 2 2 60 0 33 4 (poT l n n) (poH s l n (qam ((ptD s l).take n))) e tm2 hp2→
  Rl 2 2 60 0 33 4 (poT l 0 0) (poH s l 0 (qam ((ptD s l).take 0))) e tm2 hp2:=by
  intro n hn h e tm2 hp2 r
  refine RunsL.roundsZ (fun j=>poT l j j) (fun j=>poH s l j (qam ((ptD s l).take j))) (N:=n) n 0 (Nat.zero_add _) (fun j _ hj r=>?_) r
  obtain⟨p,hp⟩:=qal (l:=l) (k:=j) (by omega)
  obtain⟨q,hq,he⟩:=h j hj p hp
  obtain⟨i,hi⟩:=List.getElem?_of_mem hq
  have hd:(ptD s l)[j]?=some q:=by
   unfold ptD
   rw[List.getElem?_map,hp]
   show some (ptI s p.id)=some q
   rw[← he,qb6 hs hq]
  rw[qbK hd,← qfb] at r
  exact qm6 (k:=j) (n:=j) (vs:=qam ((ptD s l).take j)) (hlt:=dt (by omega)) (hk:=hp) (hin:=⟨by omega,by omega⟩) (hf:=qiU hs hi he) (he:=rfl) (hn:=by omega) (hs:=qan (by omega)) r
 rcases qaK (fun k=>∀ p,l[k]?=some p→∃ q∈s,q.id=p.id) l.length with h | ⟨k,hk,hb,hf⟩
 ·refine Or.inl ⟨fun p hp=>by
   obtain⟨k,hk⟩:=List.getElem?_of_mem hp
   exact h k (qai hk) p hk,?_⟩
  have last:=qoR (s:=s) (l:=l) (k:=l.length) (n:=l.length) (vs:=qam ((ptD s l).take l.length)) (hlt:=df (by omega))
  have run:=step l.length (Nat.le_refl _) h last
  rw[List.take_of_length_le (l:=ptD s l) (Nat.le_of_eq qb7),List.take_zero] at run
  rw[show qag (ptD s l)=.row 80 3 l.length (qam (ptD s l)) by rw[qag,qb7],qb7]
  exact qse (r0:=run)
 ·simp only[Classical.not_forall] at hb
  obtain⟨p,hp,hb⟩:=hb
  refine Or.inr ⟨fun h=>hb (h p (List.mem_of_getElem? hp)),?_⟩
  have run:=step k (Nat.le_of_lt hk) hf (qqy (k:=k) (n:=k) (vs:=qam ((ptD s l).take k)) (hlt:=dt (by omega)) (hk:=hp) (hin:=⟨by omega,by omega⟩) (hf:=qjJ hs fun q hq e=>hb ⟨q,hq,e⟩) (he:=rfl))
  rw[List.take_zero] at run
  exact qoI (r0:=run)
theorem qwk (h:l.length+m.length≤999999):Fn 59 3 [.ps 2 0 2 2] [(2,0,.ls 0 l.length),(2,1,.ls 1 m.length),(0,0,qac l),(1,0,qac m)] (.ls 3 (l++m).length) 1 [(3,0,qac (l++m))]:=by
 have e1:0+l.length+m.length=(l++m).length:=by rw[List.length_append];omega
 have e2:[]++qam l++qam m=qam (l++m):=by rw[List.nil_append,qbZ]
 have q1:iV (IntKind.i64.wrap ((0:Int)+(l.length:Int)))=iV (l.length:Int):=by rw[qaj (by omega) (by omega),Int.zero_add]
 have q2:iV (IntKind.i64.wrap ((l.length:Int)+(m.length:Int)))=iV (((l.length+m.length:Nat):Int)):=by rw[qaj (by omega) (by omega)];rfl
 by_cases hz:0<l.length+m.length
 ·have:=qwh (l:=l) (m:=m) (hq1:=q1) (hm1:=df (by omega)) (hq2:=q2) (hm2:=df (by omega)) (hgr:=qvq (h0:=df (by omega)) (hs:=by rw[qaj (by omega) (by omega),Int.sub_zero]) (hg:=dt (by omega)) (a0:=by omega) (a1:=by omega)) (ha1:=by omega) (ha2:=by omega)
  rw[e1,e2] at this
  exact this
 ·have:=quM (l:=l) (m:=m) (hq1:=q1) (hm1:=df (by omega)) (hq2:=q2) (hm2:=df (by omega)) (hgr:=qtv (h0:=df (by omega)) (hs:=by rw[qaj (by omega) (by omega),Int.sub_zero]) (hg:=df (by omega))) (ha1:=by omega) (ha2:=by omega)
  rw[e1,e2] at this
  exact this
def jnt (l m:List Pt):List Pt:=l++shN (l.length:Int) m
theorem qc6:(jnt l m).length=l.length+m.length:=by unfold jnt;rw[List.length_append,qcu]
theorem qb9 {k:Nat} (h:k<l.length):(jnt l m)[k]?=l[k]?:=by unfold jnt;rw[List.getElem?_append_left h]
theorem qbS {k:Nat} {p:Pt} (h:m[k]?=some p):(jnt l m)[k+l.length]?=some ⟨p.id,fuI (l.length:Int) p.a,fuI (l.length:Int) p.b⟩:=by
 unfold jnt shN
 rw[List.getElem?_append_right (by omega),Nat.add_sub_cancel,List.getElem?_map,h]
 rfl
abbrev upS (n:Nat) (B:Sh Nat):Sh Nat:=B.map fun k=>k+n
theorem qht:∀ {B:Sh Nat} {i:Int},Rep m i B→Rep (jnt l m) (fuI (l.length:Int) i) (upS l.length B)
 | .nil,i,h=>by
  have e:i = -1:=h
  rw[e]
  rfl
 | .node a k b,i,⟨h,p,hp,a1,a2⟩=>by
  refine⟨?_,_,qbS hp,qht a1,qht a2⟩
  rw[h]
  show (if (k:Int) = -1 then -1 else (k:Int)+(l.length:Int))=((k+l.length:Nat):Int)
  rw[if_neg (by omega)]
  omega
theorem qoh {B:Sh Nat} {i:Int} (h:Rep m i B):rtI (upS l.length B)=fuI (l.length:Int) i:=(qht (l:=l) h).rt.symm
theorem qeD {A B:Sh Nat} (hA:Fits ⟨rt,l⟩ A) (hB:Fits ⟨x,m⟩ B):JnI (ptD s (jnt l m)) (jnt l m).length A (upS l.length B) (jnt l m):=by
 have hAr:Rep l rt A:=hA.rep
 have hBr:Rep m x B:=hB.rep
 have r1:=qht (l:=l) hBr
 refine⟨rfl,qb7,?_,by rw[← r1.rt];exact r1,List.nodup_append.2 ⟨hA.nodup,?_,fun a ha b hb e=>?_⟩⟩
 ·rw[← hAr.rt]
  exact hAr.mono fun y hy=>qb9 (hAr.lt y hy)
 ·rw[Sh.map_list]
  exact List.Pairwise.map _ (fun a b h e=>h (by omega)) hB.nodup
 ·rw[Sh.map_list] at hb
  obtain⟨c,_,rfl⟩:=List.mem_map.1 hb
  have:=hAr.lt a ha
  omega
theorem qjR:Kno s (jnt l m)↔Kno s l∧Kno s m:=by
 constructor
 ·intro h
  refine⟨fun p hp=>h p (List.mem_append_left _ hp),fun p hp=>?_⟩
  exact h ⟨p.id,fuI (l.length:Int) p.a,fuI (l.length:Int) p.b⟩ (List.mem_append_right _ (List.mem_map_of_mem (f:=fun p:Pt=>(⟨p.id,fuI (l.length:Int) p.a,fuI (l.length:Int) p.b⟩:Pt)) hp))
 ·rintro⟨h1,h2⟩ p hp
  rcases List.mem_append.1 hp with h | h
  ·exact h1 p h
  ·obtain⟨q,hq,rfl⟩:=List.mem_map.1 h
   exact h2 q hq
theorem qos {n:List Pt} (hs:Val s) (h:Kno s n):qrN s (ptD s n) n:=by
 intro k hk
 have hp:=qah hk
 obtain⟨q,hq,he⟩:=h _ (List.mem_of_getElem? hp)
 have hd:(ptD s n)[k]?=some q:=by
  unfold ptD
  rw[List.getElem?_map,hp]
  show some (ptI s (ndT n k).id)=some q
  rw[← he,qb6 hs hq]
 rw[qcb hd,qao hp]
 exact⟨he.symm,hq⟩
theorem qqI {n:List Pt} (hs:Val s) (h:Kno s n) (hu:Up n) (hn:n.length≤64):Val (ptD s n):=by
 have hin:=qos hs h
 refine⟨by rw[qb7];exact hn,fun p hp=>?_,fun k p q hp hq=>?_⟩
 ·obtain⟨k,hk⟩:=List.getElem?_of_mem hp
  have hkl:=qai hk
  rw[qb7] at hkl
  have:=(hin k hkl).2
  rw[qcb hk] at this
  exact hs.ok p this
 ·have h1:=qai hp
  have h2:=qai hq
  rw[qb7] at h1 h2
  have e1:=(hin k h1).1
  have e2:=(hin (k+1) h2).1
  rw[qcb hp,qao (qah h1)] at e1
  rw[qcb hq,qao (qah h2)] at e2
  have:=hu k _ _ (qah h1) (qah h2)
  omega
theorem qfp {T:Sh Nat} (h:Fits ⟨rt,l⟩ T) (hl:l.length≤999999):qt1 l∧(∀ p∈l,-1≤p.a∧-1≤p.b):=by
 have hk:=h.lnk
 refine⟨fun p hp=>?_,fun p hp=>?_⟩
 ·obtain⟨h1,h2⟩:=hk p hp
  simp only at h1 h2
  exact⟨⟨by omega,by omega⟩,by omega,by omega⟩
 ·obtain⟨h1,h2⟩:=hk p hp
  exact⟨h1.1,h2.1⟩
end
end Go.Proofs.Ytalnjplghagbpaa

namespace Go.Proofs.Ytalnjplghagbpaa
set_option maxRecDepth 100000
open Go.RowKit
section
variable {s l m:List Pt} {tn td rt x:Int}
abbrev jdT (l:List Pt) (k:Nat):List (Nat×SV):=[(4,.pp 3 0),(5,.pp 4 0),(6,.pp 5 0),(7,.pp 6 0),(8,.pp 7 0),(9,.pv (iV (l.length:Int))),(10,.pp 8 0),(11,.pv (iV (k:Int)))]
abbrev jdH (rt x tn td:Int) (s l m:List Pt) (n:Nat) (vs:List Value):List (Nat×Nat×SV):=[(3,0,.pv (iV rt)),(3,1,.ls 0 l.length),(4,0,.pv (iV x)),(4,1,.ls 1 m.length),(5,0,.ls 2 s.length),(6,0,.pv (iV tn)),(6,1,.pv (iV td)),(7,0,.pv (iV 0)),(7,1,.pv (.slice none 0 0)),(8,0,.pv (iV 0)),(8,1,.ls 9 n),(0,0,qac l),(1,0,qac m),(2,0,qag s),(9,0,.row 26 3 n vs)]
noncomputable abbrev mgR (s l m:List Pt) (tn td:Int) (A B:Sh Nat):Int:=rtI (Sh.mrg (bX (ptD s (jnt l m)) tn td) A (upS l.length B))
noncomputable abbrev mgN (s l m:List Pt) (tn td:Int) (A B:Sh Nat):List Pt:=jnN (bX (ptD s (jnt l m)) tn td) A (upS l.length B) (jnt l m)
theorem qjN {A B:Sh Nat}:(mgN s l m tn td A B).length=(jnt l m).length:=(qa6 _ A (upS l.length B) _).len
theorem qo0 (htn:I64 tn) (htd:I64 td) (hs:Val s) {A B:Sh Nat} (hA:Fits ⟨rt,l⟩ A) (hB:Fits ⟨x,m⟩ B) (hk:Kno s (jnt l m)) (h:l.length+m.length≤999999) :
 Fn 78 3 [trS 0 rt l,trS 1 x m,qaq 2 s,.pv (qaa tn td)] [(0,0,qac l),(1,0,qac m),(2,0,qag s)] (.ag [.pv (iV (mgR s l m tn td A B)),.ls 3 (mgN s l m tn td A B).length]) 1 [(3,0,qac (mgN s l m tn td A B))]:=by
 have hAr:Rep l rt A:=hA.rep
 have hBr:Rep m x B:=hB.rep
 obtain⟨hls,hlo⟩:=qfp hB (by omega)
 have hlen:(jnt l m).length=l.length+m.length:=qc6
 have hj:=qoP (rt:=0) htn htd hs A (upS l.length B) (jnt l m) (qeD hA hB) (qos hs hk)
 rw[qoh hBr,← hAr.rt] at hj
 have loop:Rl 3 3 78 0 73 10 (jdT l 0) (jdH rt x tn td s l m (0+l.length) ([]++qam l)) (.exit 0) ([(4,.pp 3 0),(5,.pp 4 0),(6,.pp 5 0),(7,.pp 6 0),(8,.pp 7 0),(9,.pv (iV (l.length:Int))),(10,.pp 8 0)]) (jdH rt x tn td s l m (jnt l m).length (qam (jnt l m))):=by
  have run:=RunsL.roundsZ (P:=Try.prog) (fun k=>jdT l k) (fun k=>jdH rt x tn td s l m (l.length+k) (qam (l++(shN (l.length:Int) m).take k))) (N:=m.length) m.length 0 (Nat.zero_add _) (fun k _ hkm r=>by
   obtain⟨p,hp⟩:=qal hkm
   have hq:(shN (l.length:Int) m)[k]?=some ⟨p.id,fuI (l.length:Int) p.a,fuI (l.length:Int) p.b⟩:=by unfold shN;rw[List.getElem?_map,hp];rfl
   have hpm:=List.mem_of_getElem? hp
   obtain⟨⟨a1,a2⟩,b1,b2⟩:=hls p hpm
   obtain⟨a0,b0⟩:=hlo p hpm
   rw[qbK hq,← List.append_assoc,← qfb] at r
   have fu:∀ v:Int,0≤v→fuI (l.length:Int) v=v+(l.length:Int):=fun v h=>by unfold fuI;rw[if_neg (by omega)]
   have fn:∀ v:Int,-1≤v→¬ 0≤v→fuI (l.length:Int) v=v:=fun v h1 h2=>by unfold fuI;rw[if_pos (by omega)];omega
   by_cases ha:0≤p.a<;>by_cases hb:0≤p.b
   ·exact qrC (k:=k) (n:=l.length+k) (vs:=qam (l++(shN (l.length:Int) m).take k)) (hlt:=dt (by omega)) (hk:=hp) (hin:=⟨by omega,by omega⟩) (hn:=by omega) (h1:=dt ha) (ha:=by rw[qaj (by omega) (by omega),fu _ ha]) (h2:=dt hb) (hb:=by rw[qaj (by omega) (by omega),fu _ hb]) (hs:=qan (by omega)) r
   ·rw[fn p.b b0 hb] at r
    exact qr6 (k:=k) (n:=l.length+k) (vs:=qam (l++(shN (l.length:Int) m).take k)) (hlt:=dt (by omega)) (hk:=hp) (hin:=⟨by omega,by omega⟩) (hn:=by omega) (h1:=dt ha) (ha:=by rw[qaj (by omega) (by omega),fu _ ha]) (h2:=df hb) (hs:=qan (by omega)) r
   ·rw[fn p.a a0 ha] at r
    exact qrZ (k:=k) (n:=l.length+k) (vs:=qam (l++(shN (l.length:Int) m).take k)) (hlt:=dt (by omega)) (hk:=hp) (hin:=⟨by omega,by omega⟩) (hn:=by omega) (h1:=df ha) (h2:=dt hb) (hb:=by rw[qaj (by omega) (by omega),fu _ hb]) (hs:=qan (by omega)) r
   ·rw[fn p.a a0 ha,fn p.b b0 hb] at r
    exact qtU (k:=k) (n:=l.length+k) (vs:=qam (l++(shN (l.length:Int) m).take k)) (hlt:=dt (by omega)) (hk:=hp) (hin:=⟨by omega,by omega⟩) (hn:=by omega) (h1:=df ha) (h2:=df hb) (hs:=qan (by omega)) r)
   (qqQ (rt:=rt) (x:=x) (tn:=tn) (td:=td) (s:=s) (l:=l) (m:=m) (k:=m.length) (n:=l.length+m.length) (vs:=qam (l++(shN (l.length:Int) m).take m.length)) (hlt:=df (by omega)))
  rw[List.take_of_length_le (Nat.le_of_eq qcu),List.take_zero,List.append_nil,Nat.add_zero] at run
  rw[hlen,Nat.zero_add,List.nil_append]
  exact run
 have hn:=qjN (s:=s) (l:=l) (m:=m) (tn:=tn) (td:=td) (A:=A) (B:=B)
 rw[show qac (mgN s l m tn td A B)=.row 26 3 (jnt l m).length (qam (mgN s l m tn td A B)) by rw[qac,hn],hn]
 by_cases hx:0≤x
 ·have hxm:x<(m.length:Int):=hB.root.1.2
  have e:fuI (l.length:Int) x=x+(l.length:Int):=by unfold fuI;rw[if_neg (by omega)]
  rw[e] at hj
  exact qsS (h0:=by omega) (r0:=loop) (h1:=dt hx) (hs:=by rw[qaj (by omega) (by omega)]) (hj:=hj)
 ·have hx1 : -1≤x:=hB.root.1.1
  have e:fuI (l.length:Int) x=x:=by unfold fuI;rw[if_pos (by omega)];omega
  rw[e] at hj
  exact qqF (h0:=by omega) (r0:=loop) (h1:=df hx) (hj:=hj)
theorem qhO:Up (jnt l m)↔Up l∧Up m∧(∀ p q,l[l.length-1]?=some p→m[0]?=some q→p.id<q.id):=by
 constructor
 ·intro h
  refine⟨fun k p q hp hq=>?_,fun k p q hp hq=>?_,fun p q hp hq=>?_⟩
  ·exact h k p q (by rw[qb9 (qai hp)];exact hp) (by rw[qb9 (qai hq)];exact hq)
  ·have:=h (k+l.length) _ _ (qbS hp) (by rw[show k+l.length+1=k+1+l.length by omega];exact qbS hq)
   exact this
  ·have hl:=qai hp
   have h2:=qbS (l:=l) hq
   rw[Nat.zero_add] at h2
   have:=h (l.length-1) p _ (by rw[qb9 hl];exact hp) (by rw[show l.length-1+1=l.length by omega];exact h2)
   exact this
 ·rintro⟨h1,h2,h3⟩ k p q hp hq
  rcases Nat.lt_or_ge (k+1) l.length with c | c
  ·rw[qb9 (by omega)] at hp
   rw[qb9 c] at hq
   exact h1 k p q hp hq
  ·have hql:=qai hq
   rw[qc6] at hql
   obtain⟨q',hq'⟩:=qal (l:=m) (k:=k+1-l.length) (by omega)
   have e2:=qbS (l:=l) hq'
   rw[show k+1-l.length+l.length=k+1 by omega,hq] at e2
   have e2:=Option.some.inj e2
   rcases Nat.lt_or_ge k l.length with d | d
   ·rw[qb9 d] at hp
    have e:k=l.length-1:=by omega
    subst e
    have hz:l.length-1+1-l.length=0:=by omega
    rw[hz] at hq'
    have:=h3 p q' hp hq'
    rw[e2]
    exact this
   ·obtain⟨p',hp'⟩:=qal (l:=m) (k:=k-l.length) (by omega)
    have e1:=qbS (l:=l) hp'
    rw[show k-l.length+l.length=k by omega,hp] at e1
    have e1:=Option.some.inj e1
    have:=h2 (k-l.length) p' q' hp' (by rw[show k-l.length+1=k+1-l.length by omega];exact hq')
    rw[e1,e2]
    exact this
theorem qh1 (htn:I64 tn) (htd:I64 td) (hl:l.length≤999) (hm:m.length≤999):∃ (r e:Int) (n:List Pt),n.length≤2000∧
 (Val s→okB tn td=true→∀ A B,Fits ⟨rt,l⟩ A→Fits ⟨x,m⟩ B→chE ⟨rt,l⟩=0→chE ⟨x,m⟩=0→Up (jnt l m)→Kno s (jnt l m)→l.length+m.length≤64→e=0∧r=mgR s l m tn td A B∧n=mgN s l m tn td A B)∧
 Fn 14 3 [trS 0 rt l,trS 1 x m,qaq 2 s,.pv (qaa tn td)] [(0,0,qac l),(1,0,qac m),(2,0,qag s)] (.tu [.ag [.pv (iV r),.ls 3 n.length],.one (.pv (iV e))]) 1 [(3,0,qac n)]∧
 Fn 37 3 [trS 0 rt l,trS 1 x m,qaq 2 s,.pv (qaa tn td)] [(0,0,qac l),(1,0,qac m),(2,0,qag s)] (.tu [.ag [.pv (iV r),.ls 3 n.length],.one (.pv (iV e))]) 1 [(3,0,qac n)]:=by
 have p1:=qtS (rt:=rt) (l:=l) (by omega)
 have q1:=qrH (rt:=rt) (l:=l) (by omega)
 have p2:=qtS (rt:=x) (l:=m) (by omega)
 have q2:=qrH (rt:=x) (l:=m) (by omega)
 have hP:=qbp s
 have hR:=qc4 s
 have uo1:=qdy (rt:=rt) (l:=l) (by omega)
 have uo2:=qdy (rt:=x) (l:=m) (by omega)
 have co:∀ n:List Pt,n.length≤999999→∃ e,(Up n→e=0)∧(¬ Up n→e=32)∧Fn 52 1 [.ls 0 n.length] [(0,0,qac n)] (.pv (iV (e))) 0 []:=fun n hn=>by
  rcases PCo (l:=n) hn with ⟨h,r⟩ | ⟨h,r⟩
  ·exact⟨0,fun _=>rfl,fun k=>(k h).elim,r⟩
  ·exact⟨32,fun k=>(h k).elim,fun _=>rfl,r⟩
 obtain⟨f1,g1,k1,co1⟩:=co l (by omega)
 obtain⟨f2,g2,k2,co2⟩:=co m (by omega)
 have hck:∃ c,(okB tn td=true→c=0)∧(¬ okB tn td=true→c=8)∧Pure Try.prog 48 #[qaa tn td] (iV c)∧Pure Try.prog 76 #[qaa tn td] (iV c):=by
  by_cases ht:okB tn td=true
  ·exact⟨0,fun _=>rfl,fun k=>(k ht).elim,qcJ htn htd ht,qfQ htn htd ht⟩
  ·exact⟨8,fun k=>(ht k).elim,fun _=>rfl,qcI htn htd ht,qeg htn htd ht⟩
 obtain⟨c,c0,c8,pc,rc⟩:=hck
 by_cases h1:chE ⟨rt,l⟩=0
 ·rw[h1] at p1 q1
  by_cases h2:chE ⟨x,m⟩=0
  ·rw[h2] at p2 q2
   by_cases u1:Up l
   ·obtain rfl:=g1 u1
    rw[qfi u1] at uo1
    by_cases u2:Up m
    ·obtain rfl:=g2 u2
     rw[qfi u2] at uo2
     by_cases h3:qd7 s=0
     ·rw[h3] at hP hR
      have hs:=qcw.1 h3
      by_cases ht:okB tn td=true
      ·obtain rfl:=c0 ht
       obtain⟨A,hA⟩:=VT.of h1
       obtain⟨B,hB⟩:=VT.of h2
       have hBr:Rep m x B:=hB.rep
       have hAr:Rep l rt A:=hA.rep
       have hlen:(jnt l m).length=l.length+m.length:=qc6
       have hsh:=qof (l:=m) (v:=(l.length:Int)) (by omega) (qfp hB (by omega)).1 (by omega) (by omega)
       have hca:Fn 59 3 [.ps 2 0 2 2] [(2,0,.ls 0 l.length),(2,1,.ls 1 (shN (l.length:Int) m).length),(0,0,qac l),(1,0,qac (shN (l.length:Int) m))] (.ls 3 (jnt l m).length) 1 [(3,0,qac (jnt l m))]:=qwk (by rw[qcu];omega)
       obtain⟨f3,g3,k3,co3⟩:=co (jnt l m) (by omega)
       have hsum:iV (IntKind.i64.wrap ((l.length:Int)+(m.length:Int)))=iV (((l.length+m.length:Nat):Int)):=by rw[qaj (by omega) (by omega)];rfl
       by_cases hmany:64<l.length+m.length
       ·have cs:=qg1 (l:=jnt l m) (h:=dt (by omega))
        have rr:=qme (s:=s) (hc:=q1) (hce:=rfl) (hc2:=q2) (hce2:=rfl) (ho1:=uo1) (ho2:=uo2) (hf:=hR) (hfe:=rfl) (hr:=rc) (hre:=rfl) (hs:=hsum) (hm:=dt (by omega))
        refine⟨0,4,[],Nat.zero_le _,fun _ _ _ _ _ _ _ _ _ _ h=>by omega,?_,qbf rr⟩
        rcases qwa (l:=jnt l m) hs (by omega) with ⟨_,hpo⟩ | ⟨_,hpo⟩
        ·exact qbf (qnO (h1:=p1) (h2:=p2) (h3:=co1) (h4:=co2) (h5:=hP) (h6:=pc) (hsh:=hsh) (hca:=hca) (hpo:=hpo) (h7:=cs) (h8:=co3))
        ·exact qbf (qjT (h1:=p1) (h2:=p2) (h3:=co1) (h4:=co2) (h5:=hP) (h6:=pc) (hsh:=hsh) (hca:=hca) (hpo:=hpo) (h7:=cs) (h8:=co3))
       ·have cs:=qfy (l:=jnt l m) (h:=df (by omega))
        have uk1:=qop (rt:=rt) (l:=l) hs (by omega)
        have uk2:=qop (rt:=x) (l:=m) hs (by omega)
        rcases qwa (l:=jnt l m) hs (by omega) with ⟨hk,hpo⟩ | ⟨hk,hpo⟩
        ·obtain⟨hk1,hk2⟩:=qjR.1 hk
         rw[qfi hk1] at uk1
         rw[qfi hk2] at uk2
         by_cases u3:Up (jnt l m)
         ·obtain rfl:=g3 u3
          have hv:=qqI hs hk u3 (by omega)
          have jr:=qeD (s:=s) hA hB
          have hj:=qmj htn htd ht hv A (upS l.length B) (jnt l m) jr
          rw[qoh hBr,← hAr.rt] at hj
          have rj:=qo0 htn htd hs hA hB hk (by omega)
          have hn:=qjN (s:=s) (l:=l) (m:=m) (tn:=tn) (td:=td) (A:=A) (B:=B)
          have hxr:=hB.root.1
          simp only at hxr
          have pp:=qrB (h1:=p1) (h2:=p2) (h3:=co1) (h4:=co2) (h5:=hP) (h6:=pc) (hsh:=hsh) (hca:=hca) (hpo:=hpo) (h7:=cs) (h8:=co3) (hfu:=PFu (by omega) (by omega) (by omega) (by omega)) (hj:=hj)
          refine⟨mgR s l m tn td A B,0,mgN s l m tn td A B,by omega,fun _ _ A' B' hA' hB' _ _ _ _ _=>?_,?_,?_⟩
          ·rw[← hA.rep.uniq hA'.rep,← hB.rep.uniq hB'.rep]
           exact⟨rfl,rfl,rfl⟩
          ·rw[show qac (mgN s l m tn td A B)=.row 26 3 (jnt l m).length (qam (mgN s l m tn td A B)) by rw[qac,hn],hn]
           exact pp
          ·obtain⟨_,_,u4⟩:=qhO.1 u3
           by_cases l0:0<l.length
           ·by_cases m0:0<m.length
            ·obtain⟨p,hp⟩:=qal (l:=l) (k:=l.length-1) (by omega)
             obtain⟨q,hq⟩:=qal (l:=m) (k:=0) m0
             have:=u4 p q hp hq
             exact qpZ (j:=l.length-1) (hc:=q1) (hce:=rfl) (hc2:=q2) (hce2:=rfl) (ho1:=uo1) (ho2:=uo2) (hf:=hR) (hfe:=rfl) (hr:=rc) (hre:=rfl) (hs:=hsum) (hm:=df (by omega)) (hk1:=uk1) (hk2:=uk2) (hl0:=dt (by omega)) (hm0:=dt (by omega)) (hj1:=by rw[qaj (by omega) (by omega)];congr 1;omega) (hji:=⟨by omega,by omega⟩) (hp:=hp) (hmi:=⟨by omega,by omega⟩) (hq:=hq) (hc3:=df (by omega)) (hj:=rj)
            ·exact qqk (hc:=q1) (hce:=rfl) (hc2:=q2) (hce2:=rfl) (ho1:=uo1) (ho2:=uo2) (hf:=hR) (hfe:=rfl) (hr:=rc) (hre:=rfl) (hs:=hsum) (hm:=df (by omega)) (hk1:=uk1) (hk2:=uk2) (hl0:=dt (by omega)) (hm0:=df (by omega)) (hj:=rj)
           ·exact qqg (hc:=q1) (hce:=rfl) (hc2:=q2) (hce2:=rfl) (ho1:=uo1) (ho2:=uo2) (hf:=hR) (hfe:=rfl) (hr:=rc) (hre:=rfl) (hs:=hsum) (hm:=df (by omega)) (hk1:=uk1) (hk2:=uk2) (hl0:=df (by omega)) (hj:=rj)
         ·obtain rfl:=k3 u3
          have hb:¬ ∀ p q,l[l.length-1]?=some p→m[0]?=some q→p.id<q.id:=fun h=>u3 (qhO.2 ⟨u1,u2,h⟩)
          simp only[Classical.not_forall] at hb
          obtain⟨p,q,hp,hq,hb⟩:=hb
          have l0:=qai hp
          have m0:=qai hq
          exact⟨0,32,[],Nat.zero_le _,fun _ _ _ _ _ _ _ _ h=>(u3 h).elim,qbf (qoM (h1:=p1) (h2:=p2) (h3:=co1) (h4:=co2) (h5:=hP) (h6:=pc) (hsh:=hsh) (hca:=hca) (hpo:=hpo) (h7:=cs) (h8:=co3)),
           qbf (qmb (j:=l.length-1) (hc:=q1) (hce:=rfl) (hc2:=q2) (hce2:=rfl) (ho1:=uo1) (ho2:=uo2) (hf:=hR) (hfe:=rfl) (hr:=rc) (hre:=rfl) (hs:=hsum) (hm:=df (by omega)) (hk1:=uk1) (hk2:=uk2) (hl0:=dt (by omega)) (hm0:=dt (by omega)) (hj1:=by rw[qaj (by omega) (by omega)];congr 1;omega) (hji:=⟨by omega,by omega⟩) (hp:=hp) (hmi:=⟨by omega,by omega⟩) (hq:=hq) (hc3:=dt (by omega)))⟩
        ·have pe:=qmg (h1:=p1) (h2:=p2) (h3:=co1) (h4:=co2) (h5:=hP) (h6:=pc) (hsh:=hsh) (hca:=hca) (hpo:=hpo) (h7:=cs) (h8:=co3) (hee:=rfl)
         refine⟨0,6,[],Nat.zero_le _,fun _ _ _ _ _ _ _ _ _ h=>(hk h).elim,qbf pe,?_⟩
         by_cases hk1:Kno s l
         ·rw[qfi hk1] at uk1
          rw[qf9 fun h=>hk (qjR.2 ⟨hk1,h⟩)] at uk2
          exact qbf (qs9 (hc:=q1) (hce:=rfl) (hc2:=q2) (hce2:=rfl) (ho1:=uo1) (ho2:=uo2) (hf:=hR) (hfe:=rfl) (hr:=rc) (hre:=rfl) (hs:=hsum) (hm:=df (by omega)) (hk1:=uk1) (hk2:=uk2))
         ·rw[qf9 hk1] at uk1
          exact qbf (qtg (hc:=q1) (hce:=rfl) (hc2:=q2) (hce2:=rfl) (ho1:=uo1) (ho2:=uo2) (hf:=hR) (hfe:=rfl) (hr:=rc) (hre:=rfl) (hs:=hsum) (hm:=df (by omega)) (hk1:=uk1))
      ·obtain rfl:=c8 ht
       exact⟨0,8,[],Nat.zero_le _,fun _ h=>(ht h).elim,qbf (qvG (h1:=p1) (h2:=p2) (h3:=co1) (h4:=co2) (h5:=hP) (h6:=pc) (he:=rfl)),qbf (qvJ (hc:=q1) (hce:=rfl) (hc2:=q2) (hce2:=rfl) (ho1:=uo1) (ho2:=uo2) (hf:=hR) (hfe:=rfl) (hr:=rc) (hre:=rfl))⟩
     ·exact⟨0,qd7 s,[],Nat.zero_le _,fun h=>(h3 (qcw.2 h)).elim,qbf (quy (h1:=p1) (h2:=p2) (h3:=co1) (h4:=co2) (h5:=hP) (h6:=pc) (he:=ne0 h3)),qbf (qvX (hc:=q1) (hce:=rfl) (hc2:=q2) (hce2:=rfl) (ho1:=uo1) (ho2:=uo2) (hf:=hR) (hfe:=ne0 h3))⟩
    ·obtain rfl:=k2 u2
     rw[qf9 u2] at uo2
     exact⟨0,32,[],Nat.zero_le _,fun _ _ _ _ _ _ _ _ h=>(u2 (qhO.1 h).2.1).elim,qbf (qvr (h1:=p1) (h2:=p2) (h3:=co1) (h4:=co2) (h5:=hP) (h6:=pc) (he:=rfl)),qbf (qtp (hc:=q1) (hce:=rfl) (hc2:=q2) (hce2:=rfl) (ho1:=uo1) (ho2:=uo2))⟩
   ·obtain rfl:=k1 u1
    rw[qf9 u1] at uo1
    exact⟨0,32,[],Nat.zero_le _,fun _ _ _ _ _ _ _ _ h=>(u1 (qhO.1 h).1).elim,qbf (quG (h1:=p1) (h2:=p2) (h3:=co1) (h4:=co2) (h5:=hP) (h6:=pc) (he:=rfl)),qbf (qtF (hc:=q1) (hce:=rfl) (hc2:=q2) (hce2:=rfl) (ho1:=uo1))⟩
  ·exact⟨0,chE ⟨x,m⟩,[],Nat.zero_le _,fun _ _ _ _ _ _ _ h=>(h2 h).elim,qbf (qvZ (h1:=p1) (h2:=p2) (h3:=co1) (h4:=co2) (h5:=hP) (h6:=pc) (he:=ne0 h2)),qbf (qrF (hc:=q1) (hce:=rfl) (hc2:=q2) (hce2:=ne0 h2))⟩
 ·exact⟨0,chE ⟨rt,l⟩,[],Nat.zero_le _,fun _ _ _ _ _ _ h=>(h1 h).elim,qbf (quC (h1:=p1) (h2:=p2) (h3:=co1) (h4:=co2) (h5:=hP) (h6:=pc) (he:=ne0 h1)),qbf (qtm (hc:=q1) (hce:=ne0 h1))⟩
end
end Go.Proofs.Ytalnjplghagbpaa
