/-
  Joined: Eo, Ep, Eq. Conditions: none.
-/
import Derived.Test.YtalnjplghagbpaaW34
import Derived.Test.YtalnjplghagbpaaW24
import Derived.Test.YtalnjplghagbpaaW19
import Derived.Test.YtalnjplghagbpaaW27
namespace Go.Proofs.Ytalnjplghagbpaa
set_option maxRecDepth 100000
open Go.RowKit
theorem qht {l:List Pt} (hv:Val l) {k:Nat} {p:Pt} {id:Int} (hk:l[k]?=some p) (he:p.id=id):Fn 93 1 [qax 0 l,.pv (iV id)] [(0,0,qan l)] (.pv (.tuple #[ptV p,iV 0])) 0 []:=by
 have c:=qcC l
 rw[qea.2 hv] at c
 exact qjU hk (qaZ (qai hk)) c (qk1 hv hk he)
theorem qiZ {l:List Pt} (hv:Val l) {id:Int} (hno:∀ p∈l,p.id≠id):Fn 93 1 [qax 0 l,.pv (iV id)] [(0,0,qan l)] (.pv (.tuple #[ptV ⟨0,0,0⟩,iV 6])) 0 []:=by
 have c:=qcC l
 rw[qea.2 hv] at c
 rcases place l hv id with ⟨k,p,hk,he⟩ | ⟨_,k,hkl,hlo,hhi⟩
 ·exact (hno p (List.mem_of_getElem? hk) he).elim
 ·exact qk3 c (qoC hv hkl hlo hhi)
section
variable {s l m:List Pt} {tn td rt x:Int}
def Kno (s l:List Pt):Prop:=∀ p∈l,∃ q∈s,q.id=p.id
def ptD (s l:List Pt):List Pt:=l.map fun p=>ptI s p.id
theorem qce:(ptD s l).length=l.length:=List.length_map ..
theorem qmW (hs:Val s) (hl:l.length≤999999):Fn 77 2 [qax 0 s,trS 1 rt l] [(0,0,qan s),(1,0,qaa l)] (.pv (.bool (pT (Kno s l)))) 0 []:=by
 have step:∀ n,n≤l.length→(∀ k,k<n→∀ p,l[k]?=some p→∃ q∈s,q.id=p.id)→∀ {e:Exit} {tm2:TmL} {hp2:HpL},
  Rl 2 2 77 0 22 4 ([(2,.pp 2 0),(3,.pp 3 0),(5,.pv (iV (n:Int)))]) ([(2,0,.ls 0 s.length),(3,0,.pv (iV rt)),(3,1,.ls 1 l.length),(0,0,qan s),(1,0,qaa l)]) e tm2 hp2→
  Rl 2 2 77 0 22 4 ([(2,.pp 2 0),(3,.pp 3 0),(5,.pv (iV ((0:Nat):Int)))]) ([(2,0,.ls 0 s.length),(3,0,.pv (iV rt)),(3,1,.ls 1 l.length),(0,0,qan s),(1,0,qaa l)]) e tm2 hp2:=by
  intro n hn h e tm2 hp2 r
  refine RunsL.roundsZ (fun j=>[(2,.pp 2 0),(3,.pp 3 0),(5,.pv (iV (j:Int)))]) (fun _=>[(2,0,.ls 0 s.length),(3,0,.pv (iV rt)),(3,1,.ls 1 l.length),(0,0,qan s),(1,0,qaa l)]) (N:=n) n 0 (Nat.zero_add _) (fun j _ hj r=>?_) r
  obtain⟨p,hp⟩:=qak (l:=l) (k:=j) (by omega)
  obtain⟨q,hq,he⟩:=h j hj p hp
  obtain⟨i,hi⟩:=List.getElem?_of_mem hq
  exact qlm (hlt:=dt (by omega)) (hk:=hp) (hin:=⟨by omega,by omega⟩) (hat:=qi0 hs hi he) (hz:=df (by omega)) (hs:=qau (by omega)) r
 rcases qaN (fun k=>∀ p,l[k]?=some p→∃ q∈s,q.id=p.id) l.length with h | ⟨k,hk,hb,hf⟩
 ·rw[qeH (p:=Kno s l) fun p hp=>by
   obtain⟨k,hk⟩:=List.getElem?_of_mem hp
   exact h k (qai hk) p hk]
  exact qnV (r0:=step l.length (Nat.le_refl _) h (qnD (hlt:=df (by omega))))
 ·simp only[Classical.not_forall] at hb
  obtain⟨p,hp,hb⟩:=hb
  rw[qft (p:=Kno s l) fun h=>hb (h p (List.mem_of_getElem? hp))]
  exact qrt (r0:=step k (Nat.le_of_lt hk) hf (qlB (hlt:=dt (by omega)) (hk:=hp) (hin:=⟨by omega,by omega⟩) (hat:=qtw hs.len fun q hq e=>hb ⟨q,hq,e⟩) (hz:=by decide)))
abbrev poT (l:List Pt) (n k:Nat):List (Nat×SV):=[(2,.pp 2 0),(6,.ls 3 n),(11,.ls 1 l.length),(12,.pv (iV (l.length:Int))),(13,.pv (iV (k:Int)))]
abbrev poH (s l:List Pt) (n:Nat) (vs:List Value):List (Nat×Nat×SV):=[(2,0,.ls 0 s.length),(0,0,qan s),(1,0,qaa l),(3,0,.row 80 3 n vs)]
theorem qtL (hs:Val s) (hl:l.length≤999999):(Kno s l∧Fn 60 2 [qax 0 s,.ls 1 l.length] [(0,0,qan s),(1,0,qaa l)] (.tu [.one (.ls 2 (ptD s l).length),.one (.pv (iV 0))]) 1 [(2,0,qan (ptD s l))])∨
 (¬ Kno s l∧Fn 60 2 [qax 0 s,.ls 1 l.length] [(0,0,qan s),(1,0,qaa l)] (.pv (.tuple #[.slice none 0 0,iV (6)])) 0 []):=by
 have step:∀ n,n≤l.length→(∀ k,k<n→∀ p,l[k]?=some p→∃ q∈s,q.id=p.id)→∀ {e:Exit} {tm2:TmL} {hp2:HpL},
  Rl 2 2 60 0 33 4 (poT l n n) (poH s l n (qah ((ptD s l).take n))) e tm2 hp2→
  Rl 2 2 60 0 33 4 (poT l 0 0) (poH s l 0 (qah ((ptD s l).take 0))) e tm2 hp2:=by
  intro n hn h e tm2 hp2 r
  refine RunsL.roundsZ (fun j=>poT l j j) (fun j=>poH s l j (qah ((ptD s l).take j))) (N:=n) n 0 (Nat.zero_add _) (fun j _ hj r=>?_) r
  obtain⟨p,hp⟩:=qak (l:=l) (k:=j) (by omega)
  obtain⟨q,hq,he⟩:=h j hj p hp
  obtain⟨i,hi⟩:=List.getElem?_of_mem hq
  have hd:(ptD s l)[j]?=some q:=by
   unfold ptD
   rw[List.getElem?_map,hp]
   show some (ptI s p.id)=some q
   rw[← he,qd2 hs hq]
  rw[qdy hd,← qec] at r
  exact qlQ (k:=j) (n:=j) (vs:=qah ((ptD s l).take j)) (hlt:=dt (by omega)) (hk:=hp) (hin:=⟨by omega,by omega⟩) (hf:=qht hs hi he) (he:=rfl) (hn:=by omega) (hs:=qau (by omega)) r
 rcases qaN (fun k=>∀ p,l[k]?=some p→∃ q∈s,q.id=p.id) l.length with h | ⟨k,hk,hb,hf⟩
 ·refine Or.inl ⟨fun p hp=>by
   obtain⟨k,hk⟩:=List.getElem?_of_mem hp
   exact h k (qai hk) p hk,?_⟩
  have last:=qpr (s:=s) (l:=l) (k:=l.length) (n:=l.length) (vs:=qah ((ptD s l).take l.length)) (hlt:=df (by omega))
  have run:=step l.length (Nat.le_refl _) h last
  rw[List.take_of_length_le (l:=ptD s l) (Nat.le_of_eq qce),List.take_zero] at run
  rw[show qan (ptD s l)=.row 80 3 l.length (qah (ptD s l)) by rw[qan,qce],qce]
  exact qqt (r0:=run)
 ·simp only[Classical.not_forall] at hb
  obtain⟨p,hp,hb⟩:=hb
  refine Or.inr ⟨fun h=>hb (h p (List.mem_of_getElem? hp)),?_⟩
  have run:=step k (Nat.le_of_lt hk) hf (qo0 (k:=k) (n:=k) (vs:=qah ((ptD s l).take k)) (hlt:=dt (by omega)) (hk:=hp) (hin:=⟨by omega,by omega⟩) (hf:=qiZ hs fun q hq e=>hb ⟨q,hq,e⟩) (he:=rfl))
  rw[List.take_zero] at run
  exact qoZ (r0:=run)
theorem qt2 (h:l.length+m.length≤999999):Fn 59 3 [.ps 2 0 2 2] [(2,0,.ls 0 l.length),(2,1,.ls 1 m.length),(0,0,qaa l),(1,0,qaa m)] (.ls 3 (l++m).length) 1 [(3,0,qaa (l++m))]:=by
 have e1:0+l.length+m.length=(l++m).length:=by rw[List.length_append];omega
 have e2:[]++qah l++qah m=qah (l++m):=by rw[List.nil_append,qbL]
 have q1:iV (IntKind.i64.wrap ((0:Int)+(l.length:Int)))=iV (l.length:Int):=by rw[qag (by omega) (by omega),Int.zero_add]
 have q2:iV (IntKind.i64.wrap ((l.length:Int)+(m.length:Int)))=iV (((l.length+m.length:Nat):Int)):=by rw[qag (by omega) (by omega)];rfl
 by_cases hz:0<l.length+m.length
 ·have:=qt3 (l:=l) (m:=m) (hq1:=q1) (hm1:=df (by omega)) (hq2:=q2) (hm2:=df (by omega)) (hgr:=qsG (h0:=df (by omega)) (hs:=by rw[qag (by omega) (by omega),Int.sub_zero]) (hg:=dt (by omega)) (a0:=by omega) (a1:=by omega)) (ha1:=by omega) (ha2:=by omega)
  rw[e1,e2] at this
  exact this
 ·have:=qsR (l:=l) (m:=m) (hq1:=q1) (hm1:=df (by omega)) (hq2:=q2) (hm2:=df (by omega)) (hgr:=qpM (h0:=df (by omega)) (hs:=by rw[qag (by omega) (by omega),Int.sub_zero]) (hg:=df (by omega))) (ha1:=by omega) (ha2:=by omega)
  rw[e1,e2] at this
  exact this
def jnt (l m:List Pt):List Pt:=l++shN (l.length:Int) m
theorem qfz:(jnt l m).length=l.length+m.length:=by unfold jnt;rw[List.length_append,qcg]
theorem qcc {k:Nat} (h:k<l.length):(jnt l m)[k]?=l[k]?:=by unfold jnt;rw[List.getElem?_append_left h]
theorem qb3 {k:Nat} {p:Pt} (h:m[k]?=some p):(jnt l m)[k+l.length]?=some ⟨p.id,fuI (l.length:Int) p.a,fuI (l.length:Int) p.b⟩:=by
 unfold jnt shN
 rw[List.getElem?_append_right (by omega),Nat.add_sub_cancel,List.getElem?_map,h]
 rfl
abbrev upS (n:Nat) (B:Sh Nat):Sh Nat:=B.map fun k=>k+n
theorem qgB:∀ {B:Sh Nat} {i:Int},Rep m i B→Rep (jnt l m) (fuI (l.length:Int) i) (upS l.length B)
 | .nil,i,h=>by
  have e:i = -1:=h
  rw[e]
  rfl
 | .node a k b,i,⟨h,p,hp,a1,a2⟩=>by
  refine⟨?_,_,qb3 hp,qgB a1,qgB a2⟩
  rw[h]
  show (if (k:Int) = -1 then -1 else (k:Int)+(l.length:Int))=((k+l.length:Nat):Int)
  rw[if_neg (by omega)]
  omega
theorem qng {B:Sh Nat} {i:Int} (h:Rep m i B):rtI (upS l.length B)=fuI (l.length:Int) i:=(qgB (l:=l) h).rt.symm
theorem qgV {A B:Sh Nat} (hA:Fits ⟨rt,l⟩ A) (hB:Fits ⟨x,m⟩ B):JnI (ptD s (jnt l m)) (jnt l m).length A (upS l.length B) (jnt l m):=by
 have hAr:Rep l rt A:=hA.rep
 have hBr:Rep m x B:=hB.rep
 have r1:=qgB (l:=l) hBr
 refine⟨rfl,qce,?_,by rw[← r1.rt];exact r1,List.nodup_append.2 ⟨hA.nodup,?_,fun a ha b hb e=>?_⟩⟩
 ·rw[← hAr.rt]
  exact hAr.mono fun y hy=>qcc (hAr.lt y hy)
 ·rw[Sh.map_list]
  exact List.Pairwise.map _ (fun a b h e=>h (by omega)) hB.nodup
 ·rw[Sh.map_list] at hb
  obtain⟨c,_,rfl⟩:=List.mem_map.1 hb
  have:=hAr.lt a ha
  omega
theorem qix:Kno s (jnt l m)↔Kno s l∧Kno s m:=by
 constructor
 ·intro h
  refine⟨fun p hp=>h p (List.mem_append_left _ hp),fun p hp=>?_⟩
  exact h ⟨p.id,fuI (l.length:Int) p.a,fuI (l.length:Int) p.b⟩ (List.mem_append_right _ (List.mem_map_of_mem (f:=fun p:Pt=>(⟨p.id,fuI (l.length:Int) p.a,fuI (l.length:Int) p.b⟩:Pt)) hp))
 ·rintro⟨h1,h2⟩ p hp
  rcases List.mem_append.1 hp with h | h
  ·exact h1 p h
  ·obtain⟨q,hq,rfl⟩:=List.mem_map.1 h
   exact h2 q hq
theorem qnv {n:List Pt} (hs:Val s) (h:Kno s n):qpO s (ptD s n) n:=by
 intro k hk
 have hp:=qas hk
 obtain⟨q,hq,he⟩:=h _ (List.mem_of_getElem? hp)
 have hd:(ptD s n)[k]?=some q:=by
  unfold ptD
  rw[List.getElem?_map,hp]
  show some (ptI s (ndT n k).id)=some q
  rw[← he,qd2 hs hq]
 rw[qct hd,qaQ hp]
 exact⟨he.symm,hq⟩
theorem qnN {n:List Pt} (hs:Val s) (h:Kno s n) (hu:Up n) (hn:n.length≤64):Val (ptD s n):=by
 have hin:=qnv hs h
 refine⟨by rw[qce];exact hn,fun p hp=>?_,fun k p q hp hq=>?_⟩
 ·obtain⟨k,hk⟩:=List.getElem?_of_mem hp
  have hkl:=qai hk
  rw[qce] at hkl
  have:=(hin k hkl).2
  rw[qct hk] at this
  exact hs.ok p this
 ·have h1:=qai hp
  have h2:=qai hq
  rw[qce] at h1 h2
  have e1:=(hin k h1).1
  have e2:=(hin (k+1) h2).1
  rw[qct hp,qaQ (qas h1)] at e1
  rw[qct hq,qaQ (qas h2)] at e2
  have:=hu k _ _ (qas h1) (qas h2)
  omega
theorem qfq {T:Sh Nat} (h:Fits ⟨rt,l⟩ T) (hl:l.length≤999999):qsa l∧(∀ p∈l,-1≤p.a∧-1≤p.b):=by
 have hk:=h.lnk
 refine⟨fun p hp=>?_,fun p hp=>?_⟩
 ·obtain⟨h1,h2⟩:=hk p hp
  simp only at h1 h2
  exact⟨⟨by omega,by omega⟩,by omega,by omega⟩
 ·obtain⟨h1,h2⟩:=hk p hp
  exact⟨h1.1,h2.1⟩
end
end Go.Proofs.Ytalnjplghagbpaa

namespace Go.Proofs.Ytalnjplghagbpaa
set_option maxRecDepth 100000
open Go.RowKit
section
variable {s l m:List Pt} {tn td rt x:Int}
abbrev jdT (l:List Pt) (k:Nat):List (Nat×SV):=[(4,.pp 3 0),(5,.pp 4 0),(6,.pp 5 0),(7,.pp 6 0),(8,.pp 7 0),(9,.pv (iV (l.length:Int))),(10,.pp 8 0),(11,.pv (iV (k:Int)))]
abbrev jdH (rt x tn td:Int) (s l m:List Pt) (n:Nat) (vs:List Value):List (Nat×Nat×SV):=[(3,0,.pv (iV rt)),(3,1,.ls 0 l.length),(4,0,.pv (iV x)),(4,1,.ls 1 m.length),(5,0,.ls 2 s.length),(6,0,.pv (iV tn)),(6,1,.pv (iV td)),(7,0,.pv (iV 0)),(7,1,.pv (.slice none 0 0)),(8,0,.pv (iV 0)),(8,1,.ls 9 n),(0,0,qaa l),(1,0,qaa m),(2,0,qan s),(9,0,.row 26 3 n vs)]
noncomputable abbrev mgR (s l m:List Pt) (tn td:Int) (A B:Sh Nat):Int:=rtI (Sh.mrg (bX (ptD s (jnt l m)) tn td) A (upS l.length B))
noncomputable abbrev mgN (s l m:List Pt) (tn td:Int) (A B:Sh Nat):List Pt:=jnN (bX (ptD s (jnt l m)) tn td) A (upS l.length B) (jnt l m)
theorem qiY {A B:Sh Nat}:(mgN s l m tn td A B).length=(jnt l m).length:=(qbJ _ A (upS l.length B) _).len
theorem qo7 (htn:I64 tn) (htd:I64 td) (hs:Val s) {A B:Sh Nat} (hA:Fits ⟨rt,l⟩ A) (hB:Fits ⟨x,m⟩ B) (hk:Kno s (jnt l m)) (h:l.length+m.length≤999999) :
 Fn 78 3 [trS 0 rt l,trS 1 x m,qax 2 s,.pv (qad tn td)] [(0,0,qaa l),(1,0,qaa m),(2,0,qan s)] (.ag [.pv (iV (mgR s l m tn td A B)),.ls 3 (mgN s l m tn td A B).length]) 1 [(3,0,qaa (mgN s l m tn td A B))]:=by
 have hAr:Rep l rt A:=hA.rep
 have hBr:Rep m x B:=hB.rep
 obtain⟨hls,hlo⟩:=qfq hB (by omega)
 have hlen:(jnt l m).length=l.length+m.length:=qfz
 have hj:=qoK (rt:=0) htn htd hs A (upS l.length B) (jnt l m) (qgV hA hB) (qnv hs hk)
 rw[qng hBr,← hAr.rt] at hj
 have loop:Rl 3 3 78 0 73 10 (jdT l 0) (jdH rt x tn td s l m (0+l.length) ([]++qah l)) (.exit 0) ([(4,.pp 3 0),(5,.pp 4 0),(6,.pp 5 0),(7,.pp 6 0),(8,.pp 7 0),(9,.pv (iV (l.length:Int))),(10,.pp 8 0)]) (jdH rt x tn td s l m (jnt l m).length (qah (jnt l m))):=by
  have run:=RunsL.roundsZ (P:=Try.prog) (fun k=>jdT l k) (fun k=>jdH rt x tn td s l m (l.length+k) (qah (l++(shN (l.length:Int) m).take k))) (N:=m.length) m.length 0 (Nat.zero_add _) (fun k _ hkm r=>by
   obtain⟨p,hp⟩:=qak hkm
   have hq:(shN (l.length:Int) m)[k]?=some ⟨p.id,fuI (l.length:Int) p.a,fuI (l.length:Int) p.b⟩:=by unfold shN;rw[List.getElem?_map,hp];rfl
   have hpm:=List.mem_of_getElem? hp
   obtain⟨⟨a1,a2⟩,b1,b2⟩:=hls p hpm
   obtain⟨a0,b0⟩:=hlo p hpm
   rw[qdy hq,← List.append_assoc,← qec] at r
   have fu:∀ v:Int,0≤v→fuI (l.length:Int) v=v+(l.length:Int):=fun v h=>by unfold fuI;rw[if_neg (by omega)]
   have fn:∀ v:Int,-1≤v→¬ 0≤v→fuI (l.length:Int) v=v:=fun v h1 h2=>by unfold fuI;rw[if_pos (by omega)];omega
   by_cases ha:0≤p.a<;>by_cases hb:0≤p.b
   ·exact qrw (k:=k) (n:=l.length+k) (vs:=qah (l++(shN (l.length:Int) m).take k)) (hlt:=dt (by omega)) (hk:=hp) (hin:=⟨by omega,by omega⟩) (hn:=by omega) (h1:=dt ha) (ha:=by rw[qag (by omega) (by omega),fu _ ha]) (h2:=dt hb) (hb:=by rw[qag (by omega) (by omega),fu _ hb]) (hs:=qau (by omega)) r
   ·rw[fn p.b b0 hb] at r
    exact qrN (k:=k) (n:=l.length+k) (vs:=qah (l++(shN (l.length:Int) m).take k)) (hlt:=dt (by omega)) (hk:=hp) (hin:=⟨by omega,by omega⟩) (hn:=by omega) (h1:=dt ha) (ha:=by rw[qag (by omega) (by omega),fu _ ha]) (h2:=df hb) (hs:=qau (by omega)) r
   ·rw[fn p.a a0 ha] at r
    exact qrG (k:=k) (n:=l.length+k) (vs:=qah (l++(shN (l.length:Int) m).take k)) (hlt:=dt (by omega)) (hk:=hp) (hin:=⟨by omega,by omega⟩) (hn:=by omega) (h1:=df ha) (h2:=dt hb) (hb:=by rw[qag (by omega) (by omega),fu _ hb]) (hs:=qau (by omega)) r
   ·rw[fn p.a a0 ha,fn p.b b0 hb] at r
    exact qqS (k:=k) (n:=l.length+k) (vs:=qah (l++(shN (l.length:Int) m).take k)) (hlt:=dt (by omega)) (hk:=hp) (hin:=⟨by omega,by omega⟩) (hn:=by omega) (h1:=df ha) (h2:=df hb) (hs:=qau (by omega)) r)
   (qoy (rt:=rt) (x:=x) (tn:=tn) (td:=td) (s:=s) (l:=l) (m:=m) (k:=m.length) (n:=l.length+m.length) (vs:=qah (l++(shN (l.length:Int) m).take m.length)) (hlt:=df (by omega)))
  rw[List.take_of_length_le (Nat.le_of_eq qcg),List.take_zero,List.append_nil,Nat.add_zero] at run
  rw[hlen,Nat.zero_add,List.nil_append]
  exact run
 have hn:=qiY (s:=s) (l:=l) (m:=m) (tn:=tn) (td:=td) (A:=A) (B:=B)
 rw[show qaa (mgN s l m tn td A B)=.row 26 3 (jnt l m).length (qah (mgN s l m tn td A B)) by rw[qaa,hn],hn]
 by_cases hx:0≤x
 ·have hxm:x<(m.length:Int):=hB.root.1.2
  have e:fuI (l.length:Int) x=x+(l.length:Int):=by unfold fuI;rw[if_neg (by omega)]
  rw[e] at hj
  exact qrE (h0:=by omega) (r0:=loop) (h1:=dt hx) (hs:=by rw[qag (by omega) (by omega)]) (hj:=hj)
 ·have hx1 : -1≤x:=hB.root.1.1
  have e:fuI (l.length:Int) x=x:=by unfold fuI;rw[if_pos (by omega)];omega
  rw[e] at hj
  exact qn4 (h0:=by omega) (r0:=loop) (h1:=df hx) (hj:=hj)
theorem qgR:Up (jnt l m)↔Up l∧Up m∧(∀ p q,l[l.length-1]?=some p→m[0]?=some q→p.id<q.id):=by
 constructor
 ·intro h
  refine⟨fun k p q hp hq=>?_,fun k p q hp hq=>?_,fun p q hp hq=>?_⟩
  ·exact h k p q (by rw[qcc (qai hp)];exact hp) (by rw[qcc (qai hq)];exact hq)
  ·have:=h (k+l.length) _ _ (qb3 hp) (by rw[show k+l.length+1=k+1+l.length by omega];exact qb3 hq)
   exact this
  ·have hl:=qai hp
   have h2:=qb3 (l:=l) hq
   rw[Nat.zero_add] at h2
   have:=h (l.length-1) p _ (by rw[qcc hl];exact hp) (by rw[show l.length-1+1=l.length by omega];exact h2)
   exact this
 ·rintro⟨h1,h2,h3⟩ k p q hp hq
  rcases Nat.lt_or_ge (k+1) l.length with c | c
  ·rw[qcc (by omega)] at hp
   rw[qcc c] at hq
   exact h1 k p q hp hq
  ·have hql:=qai hq
   rw[qfz] at hql
   obtain⟨q',hq'⟩:=qak (l:=m) (k:=k+1-l.length) (by omega)
   have e2:=qb3 (l:=l) hq'
   rw[show k+1-l.length+l.length=k+1 by omega,hq] at e2
   have e2:=Option.some.inj e2
   rcases Nat.lt_or_ge k l.length with d | d
   ·rw[qcc d] at hp
    have e:k=l.length-1:=by omega
    subst e
    have hz:l.length-1+1-l.length=0:=by omega
    rw[hz] at hq'
    have:=h3 p q' hp hq'
    rw[e2]
    exact this
   ·obtain⟨p',hp'⟩:=qak (l:=m) (k:=k-l.length) (by omega)
    have e1:=qb3 (l:=l) hp'
    rw[show k-l.length+l.length=k by omega,hp] at e1
    have e1:=Option.some.inj e1
    have:=h2 (k-l.length) p' q' hp' (by rw[show k-l.length+1=k+1-l.length by omega];exact hq')
    rw[e1,e2]
    exact this
theorem qhK (htn:I64 tn) (htd:I64 td) (hl:l.length≤999) (hm:m.length≤999):∃ (r e:Int) (n:List Pt),n.length≤2000∧
 (Val s→okB tn td=true→∀ A B,Fits ⟨rt,l⟩ A→Fits ⟨x,m⟩ B→chE ⟨rt,l⟩=0→chE ⟨x,m⟩=0→Up (jnt l m)→Kno s (jnt l m)→l.length+m.length≤64→e=0∧r=mgR s l m tn td A B∧n=mgN s l m tn td A B)∧
 Fn 14 3 [trS 0 rt l,trS 1 x m,qax 2 s,.pv (qad tn td)] [(0,0,qaa l),(1,0,qaa m),(2,0,qan s)] (.tu [.ag [.pv (iV r),.ls 3 n.length],.one (.pv (iV e))]) 1 [(3,0,qaa n)]∧
 Fn 37 3 [trS 0 rt l,trS 1 x m,qax 2 s,.pv (qad tn td)] [(0,0,qaa l),(1,0,qaa m),(2,0,qan s)] (.tu [.ag [.pv (iV r),.ls 3 n.length],.one (.pv (iV e))]) 1 [(3,0,qaa n)]:=by
 have p1:=qsc (rt:=rt) (l:=l) (by omega)
 have q1:=qr6 (rt:=rt) (l:=l) (by omega)
 have p2:=qsc (rt:=x) (l:=m) (by omega)
 have q2:=qr6 (rt:=x) (l:=m) (by omega)
 have hP:=qcC s
 have hR:=qhe s
 have uo1:=qdg (rt:=rt) (l:=l) (by omega)
 have uo2:=qdg (rt:=x) (l:=m) (by omega)
 have co:∀ n:List Pt,n.length≤999999→∃ e,(Up n→e=0)∧(¬ Up n→e=32)∧Fn 52 1 [.ls 0 n.length] [(0,0,qaa n)] (.pv (iV (e))) 0 []:=fun n hn=>by
  rcases PCo (l:=n) hn with ⟨h,r⟩ | ⟨h,r⟩
  ·exact⟨0,fun _=>rfl,fun k=>(k h).elim,r⟩
  ·exact⟨32,fun k=>(h k).elim,fun _=>rfl,r⟩
 obtain⟨f1,g1,k1,co1⟩:=co l (by omega)
 obtain⟨f2,g2,k2,co2⟩:=co m (by omega)
 have hck:∃ c,(okB tn td=true→c=0)∧(¬ okB tn td=true→c=8)∧Pure Try.prog 48 #[qad tn td] (iV c)∧Pure Try.prog 76 #[qad tn td] (iV c):=by
  by_cases ht:okB tn td=true
  ·exact⟨0,fun _=>rfl,fun k=>(k ht).elim,qgG htn htd ht,qin htn htd ht⟩
  ·exact⟨8,fun k=>(ht k).elim,fun _=>rfl,qjb htn htd ht,qhk htn htd ht⟩
 obtain⟨c,c0,c8,pc,rc⟩:=hck
 by_cases h1:chE ⟨rt,l⟩=0
 ·rw[h1] at p1 q1
  by_cases h2:chE ⟨x,m⟩=0
  ·rw[h2] at p2 q2
   by_cases u1:Up l
   ·obtain rfl:=g1 u1
    rw[qeH u1] at uo1
    by_cases u2:Up m
    ·obtain rfl:=g2 u2
     rw[qeH u2] at uo2
     by_cases h3:qic s=0
     ·rw[h3] at hP hR
      have hs:=qea.1 h3
      by_cases ht:okB tn td=true
      ·obtain rfl:=c0 ht
       obtain⟨A,hA⟩:=VT.of h1
       obtain⟨B,hB⟩:=VT.of h2
       have hBr:Rep m x B:=hB.rep
       have hAr:Rep l rt A:=hA.rep
       have hlen:(jnt l m).length=l.length+m.length:=qfz
       have hsh:=qm6 (l:=m) (v:=(l.length:Int)) (by omega) (qfq hB (by omega)).1 (by omega) (by omega)
       have hca:Fn 59 3 [.ps 2 0 2 2] [(2,0,.ls 0 l.length),(2,1,.ls 1 (shN (l.length:Int) m).length),(0,0,qaa l),(1,0,qaa (shN (l.length:Int) m))] (.ls 3 (jnt l m).length) 1 [(3,0,qaa (jnt l m))]:=qt2 (by rw[qcg];omega)
       obtain⟨f3,g3,k3,co3⟩:=co (jnt l m) (by omega)
       have hsum:iV (IntKind.i64.wrap ((l.length:Int)+(m.length:Int)))=iV (((l.length+m.length:Nat):Int)):=by rw[qag (by omega) (by omega)];rfl
       by_cases hmany:64<l.length+m.length
       ·have cs:=qgr (l:=jnt l m) (h:=dt (by omega))
        have rr:=qmG (s:=s) (hc:=q1) (hce:=rfl) (hc2:=q2) (hce2:=rfl) (ho1:=uo1) (ho2:=uo2) (hf:=hR) (hfe:=rfl) (hr:=rc) (hre:=rfl) (hs:=hsum) (hm:=dt (by omega))
        refine⟨0,4,[],Nat.zero_le _,fun _ _ _ _ _ _ _ _ _ _ h=>by omega,?_,qbz rr⟩
        rcases qtL (l:=jnt l m) hs (by omega) with ⟨_,hpo⟩ | ⟨_,hpo⟩
        ·exact qbz (qlI (h1:=p1) (h2:=p2) (h3:=co1) (h4:=co2) (h5:=hP) (h6:=pc) (hsh:=hsh) (hca:=hca) (hpo:=hpo) (h7:=cs) (h8:=co3))
        ·exact qbz (qjR (h1:=p1) (h2:=p2) (h3:=co1) (h4:=co2) (h5:=hP) (h6:=pc) (hsh:=hsh) (hca:=hca) (hpo:=hpo) (h7:=cs) (h8:=co3))
       ·have cs:=qfc (l:=jnt l m) (h:=df (by omega))
        have uk1:=qmW (rt:=rt) (l:=l) hs (by omega)
        have uk2:=qmW (rt:=x) (l:=m) hs (by omega)
        rcases qtL (l:=jnt l m) hs (by omega) with ⟨hk,hpo⟩ | ⟨hk,hpo⟩
        ·obtain⟨hk1,hk2⟩:=qix.1 hk
         rw[qeH hk1] at uk1
         rw[qeH hk2] at uk2
         by_cases u3:Up (jnt l m)
         ·obtain rfl:=g3 u3
          have hv:=qnN hs hk u3 (by omega)
          have jr:=qgV (s:=s) hA hB
          have hj:=qn8 htn htd ht hv A (upS l.length B) (jnt l m) jr
          rw[qng hBr,← hAr.rt] at hj
          have rj:=qo7 htn htd hs hA hB hk (by omega)
          have hn:=qiY (s:=s) (l:=l) (m:=m) (tn:=tn) (td:=td) (A:=A) (B:=B)
          have hxr:=hB.root.1
          simp only at hxr
          have pp:=qqX (h1:=p1) (h2:=p2) (h3:=co1) (h4:=co2) (h5:=hP) (h6:=pc) (hsh:=hsh) (hca:=hca) (hpo:=hpo) (h7:=cs) (h8:=co3) (hfu:=PFu (by omega) (by omega) (by omega) (by omega)) (hj:=hj)
          refine⟨mgR s l m tn td A B,0,mgN s l m tn td A B,by omega,fun _ _ A' B' hA' hB' _ _ _ _ _=>?_,?_,?_⟩
          ·rw[← hA.rep.uniq hA'.rep,← hB.rep.uniq hB'.rep]
           exact⟨rfl,rfl,rfl⟩
          ·rw[show qaa (mgN s l m tn td A B)=.row 26 3 (jnt l m).length (qah (mgN s l m tn td A B)) by rw[qaa,hn],hn]
           exact pp
          ·obtain⟨_,_,u4⟩:=qgR.1 u3
           by_cases l0:0<l.length
           ·by_cases m0:0<m.length
            ·obtain⟨p,hp⟩:=qak (l:=l) (k:=l.length-1) (by omega)
             obtain⟨q,hq⟩:=qak (l:=m) (k:=0) m0
             have:=u4 p q hp hq
             exact qo9 (j:=l.length-1) (hc:=q1) (hce:=rfl) (hc2:=q2) (hce2:=rfl) (ho1:=uo1) (ho2:=uo2) (hf:=hR) (hfe:=rfl) (hr:=rc) (hre:=rfl) (hs:=hsum) (hm:=df (by omega)) (hk1:=uk1) (hk2:=uk2) (hl0:=dt (by omega)) (hm0:=dt (by omega)) (hj1:=by rw[qag (by omega) (by omega)];congr 1;omega) (hji:=⟨by omega,by omega⟩) (hp:=hp) (hmi:=⟨by omega,by omega⟩) (hq:=hq) (hc3:=df (by omega)) (hj:=rj)
            ·exact qpf (hc:=q1) (hce:=rfl) (hc2:=q2) (hce2:=rfl) (ho1:=uo1) (ho2:=uo2) (hf:=hR) (hfe:=rfl) (hr:=rc) (hre:=rfl) (hs:=hsum) (hm:=df (by omega)) (hk1:=uk1) (hk2:=uk2) (hl0:=dt (by omega)) (hm0:=df (by omega)) (hj:=rj)
           ·exact qoU (hc:=q1) (hce:=rfl) (hc2:=q2) (hce2:=rfl) (ho1:=uo1) (ho2:=uo2) (hf:=hR) (hfe:=rfl) (hr:=rc) (hre:=rfl) (hs:=hsum) (hm:=df (by omega)) (hk1:=uk1) (hk2:=uk2) (hl0:=df (by omega)) (hj:=rj)
         ·obtain rfl:=k3 u3
          have hb:¬ ∀ p q,l[l.length-1]?=some p→m[0]?=some q→p.id<q.id:=fun h=>u3 (qgR.2 ⟨u1,u2,h⟩)
          simp only[Classical.not_forall] at hb
          obtain⟨p,q,hp,hq,hb⟩:=hb
          have l0:=qai hp
          have m0:=qai hq
          exact⟨0,32,[],Nat.zero_le _,fun _ _ _ _ _ _ _ _ h=>(u3 h).elim,qbz (qol (h1:=p1) (h2:=p2) (h3:=co1) (h4:=co2) (h5:=hP) (h6:=pc) (hsh:=hsh) (hca:=hca) (hpo:=hpo) (h7:=cs) (h8:=co3)),
           qbz (qmP (j:=l.length-1) (hc:=q1) (hce:=rfl) (hc2:=q2) (hce2:=rfl) (ho1:=uo1) (ho2:=uo2) (hf:=hR) (hfe:=rfl) (hr:=rc) (hre:=rfl) (hs:=hsum) (hm:=df (by omega)) (hk1:=uk1) (hk2:=uk2) (hl0:=dt (by omega)) (hm0:=dt (by omega)) (hj1:=by rw[qag (by omega) (by omega)];congr 1;omega) (hji:=⟨by omega,by omega⟩) (hp:=hp) (hmi:=⟨by omega,by omega⟩) (hq:=hq) (hc3:=dt (by omega)))⟩
        ·have pe:=qlX (h1:=p1) (h2:=p2) (h3:=co1) (h4:=co2) (h5:=hP) (h6:=pc) (hsh:=hsh) (hca:=hca) (hpo:=hpo) (h7:=cs) (h8:=co3) (hee:=rfl)
         refine⟨0,6,[],Nat.zero_le _,fun _ _ _ _ _ _ _ _ _ h=>(hk h).elim,qbz pe,?_⟩
         by_cases hk1:Kno s l
         ·rw[qeH hk1] at uk1
          rw[qft fun h=>hk (qix.2 ⟨hk1,h⟩)] at uk2
          exact qbz (qqQ (hc:=q1) (hce:=rfl) (hc2:=q2) (hce2:=rfl) (ho1:=uo1) (ho2:=uo2) (hf:=hR) (hfe:=rfl) (hr:=rc) (hre:=rfl) (hs:=hsum) (hm:=df (by omega)) (hk1:=uk1) (hk2:=uk2))
         ·rw[qft hk1] at uk1
          exact qbz (qrO (hc:=q1) (hce:=rfl) (hc2:=q2) (hce2:=rfl) (ho1:=uo1) (ho2:=uo2) (hf:=hR) (hfe:=rfl) (hr:=rc) (hre:=rfl) (hs:=hsum) (hm:=df (by omega)) (hk1:=uk1))
      ·obtain rfl:=c8 ht
       exact⟨0,8,[],Nat.zero_le _,fun _ h=>(ht h).elim,qbz (qte (h1:=p1) (h2:=p2) (h3:=co1) (h4:=co2) (h5:=hP) (h6:=pc) (he:=rfl)),qbz (qs2 (hc:=q1) (hce:=rfl) (hc2:=q2) (hce2:=rfl) (ho1:=uo1) (ho2:=uo2) (hf:=hR) (hfe:=rfl) (hr:=rc) (hre:=rfl))⟩
     ·exact⟨0,qic s,[],Nat.zero_le _,fun h=>(h3 (qea.2 h)).elim,qbz (qsU (h1:=p1) (h2:=p2) (h3:=co1) (h4:=co2) (h5:=hP) (h6:=pc) (he:=ne0 h3)),qbz (qsO (hc:=q1) (hce:=rfl) (hc2:=q2) (hce2:=rfl) (ho1:=uo1) (ho2:=uo2) (hf:=hR) (hfe:=ne0 h3))⟩
    ·obtain rfl:=k2 u2
     rw[qft u2] at uo2
     exact⟨0,32,[],Nat.zero_le _,fun _ _ _ _ _ _ _ _ h=>(u2 (qgR.1 h).2.1).elim,qbz (qsL (h1:=p1) (h2:=p2) (h3:=co1) (h4:=co2) (h5:=hP) (h6:=pc) (he:=rfl)),qbz (qpW (hc:=q1) (hce:=rfl) (hc2:=q2) (hce2:=rfl) (ho1:=uo1) (ho2:=uo2))⟩
   ·obtain rfl:=k1 u1
    rw[qft u1] at uo1
    exact⟨0,32,[],Nat.zero_le _,fun _ _ _ _ _ _ _ _ h=>(u1 (qgR.1 h).1).elim,qbz (qsD (h1:=p1) (h2:=p2) (h3:=co1) (h4:=co2) (h5:=hP) (h6:=pc) (he:=rfl)),qbz (qrH (hc:=q1) (hce:=rfl) (hc2:=q2) (hce2:=rfl) (ho1:=uo1))⟩
  ·exact⟨0,chE ⟨x,m⟩,[],Nat.zero_le _,fun _ _ _ _ _ _ _ h=>(h2 h).elim,qbz (qsm (h1:=p1) (h2:=p2) (h3:=co1) (h4:=co2) (h5:=hP) (h6:=pc) (he:=ne0 h2)),qbz (qrP (hc:=q1) (hce:=rfl) (hc2:=q2) (hce2:=ne0 h2))⟩
 ·exact⟨0,chE ⟨rt,l⟩,[],Nat.zero_le _,fun _ _ _ _ _ _ h=>(h1 h).elim,qbz (qtx (h1:=p1) (h2:=p2) (h3:=co1) (h4:=co2) (h5:=hP) (h6:=pc) (he:=ne0 h1)),qbz (qqP (hc:=q1) (hce:=ne0 h1))⟩
end
end Go.Proofs.Ytalnjplghagbpaa

namespace Go.Proofs.Ytalnjplghagbpaa
set_option maxRecDepth 100000
open Go.RowKit
section
variable {rt x z e3 e1 r1 r2 r3 tn td:Int} {s l m n0 n1 n2 n3:List Pt} {n:Nat}
abbrev ctE (e3 e1:Int):List (Nat×SV):=[(13,.pp 13 0),(14,.pp 14 0),(15,.pv (iV e3)),(16,.pp 17 0),(17,.pp 18 0),(18,.pv (iV e3)),(19,.pp 20 0),(20,.pv (iV e1)),(21,.pp 22 0),(22,.pv (iV e1))]
abbrev ctR (r1 r2 r3:Int) (n:Nat) (n0 n1 n2 n3:List Pt):List (Nat×Nat×SV):=[(13,0,.pv (iV r1)),(13,1,.lq 11 3 0 n),(14,0,.pv (iV r2)),(14,1,.ls 12 n2.length),(17,0,.pv (iV r1)),(17,1,.ls 15 n1.length),(18,0,.pv (iV r2)),(18,1,.ls 16 n2.length),(20,0,.pv (iV r3)),(20,1,.ls 19 n3.length),(22,0,.pv (iV r3)),(22,1,.ls 21 n3.length),(11,0,qaa n0),(12,0,qaa n2),(15,0,qaa n1),(16,0,qaa n2),(19,0,qaa n3),(21,0,qaa n3)]
theorem qtp (hl:l.length≤999999):∀ (d k:Nat) (c:List Pt),k+d=l.length→c.length=l.length→∃ c',Rl 3 3 5 0 134 23 (ctT e3 e1 k) (ctH rt x r1 r2 r3 n l m n0 n1 n2 n3 c) (.exit 0)
 ([(11,.pp 9 0),(12,.pp 10 0)]++ctE e3 e1) (ctH rt x r1 r2 r3 n l m n0 n1 n2 n3 c'):=by
 intro d
 induction d with
 | zero=>intro k c hk hc;exact⟨c,qjM (hlt:=df (by omega))⟩
 | succ d ih=>
  intro k c hk hc
  obtain⟨p,hp⟩:=qak (l:=c) (k:=k) (by omega)
  obtain⟨c',r⟩:=ih (k+1) (c.set k ⟨IntKind.i64.wrap (p.id+1),p.a,p.b⟩) (by omega) (by rw[List.length_set];exact hc)
  exact⟨c',qhU (hlt:=dt (by omega)) (hin:=⟨by omega,by omega⟩) (hk:=hp) (hgl:=by rw[qaG];omega) (ha:=rfl) (hs:=qau (by omega)) r⟩
theorem qtq (hm:m.length≤999999):∀ (d k:Nat) (c:List Pt),k+d=m.length→c.length=m.length→Rl 3 3 5 1 134 23 (qtZ e3 e1 k) (qtX x r1 r2 r3 n m n0 n1 n2 n3 c) (.exit 2)
 (ctE e3 e1) (ctR r1 r2 r3 n n0 n1 n2 n3):=by
 intro d
 induction d with
 | zero=>intro k c hk hc;exact qiR (hlt:=df (by omega))
 | succ d ih=>
  intro k c hk hc
  obtain⟨p,hp⟩:=qak (l:=c) (k:=k) (by omega)
  have r:=ih (k+1) (c.set k ⟨IntKind.i64.wrap (p.id+1),p.a,p.b⟩) (by omega) (by rw[List.length_set];exact hc)
  exact qhA (hlt:=dt (by omega)) (hin:=⟨by omega,by omega⟩) (hk:=hp) (hgl:=by rw[qaG];omega) (ha:=rfl) (hs:=qau (by omega)) r
theorem qlZ (htn:I64 tn) (htd:I64 td):Fn 5 3 [trS 0 rt l,trS 1 x m,.pv (iV z),qax 2 s,.pv (qad tn td)] [(0,0,qaa l),(1,0,qaa m),(2,0,qan s)] (.pv (.bool true)) 0 []:=by
 rcases qiI s with ⟨_,hgf⟩ | ⟨hgs,hgf⟩
 ·exact qti (hgf:=hgf)
 rcases qmV (rt:=rt) (l:=l) with ⟨_,hgx⟩ | ⟨hlx,hgx⟩
 ·exact qtv (hgf:=hgf) (hgx:=hgx)
 rcases qmV (rt:=x) (l:=m) with ⟨_,hgy⟩ | ⟨hly,hgy⟩
 ·exact qs4 (hgf:=hgf) (hgx:=hgx) (hgy:=hgy)
 obtain⟨r1,r2,e3,n,n0,n2,c1,c2,c3,_,s1,s2⟩:=qhf (rt:=rt) (l:=l) (z:=z) (by omega)
 obtain⟨r3,e1,n3,c4,_,m1,m2⟩:=qhK (s:=s) (rt:=rt) (l:=l) (x:=x) (m:=m) htn htd (by omega) (by omega)
 obtain⟨c,h0⟩:=qtp (rt:=rt) (x:=x) (e3:=e3) (e1:=e1) (r1:=r1) (r2:=r2) (r3:=r3) (m:=m) (n0:=n0) (n1:=n0.take n) (n2:=n2) (n3:=n3) (n:=n) (l:=l) (by omega) l.length 0 l (by omega) rfl
 have h1:=qtq (x:=x) (e3:=e3) (e1:=e1) (r1:=r1) (r2:=r2) (r3:=r3) (m:=m) (n0:=n0) (n1:=n0.take n) (n2:=n2) (n3:=n3) (n:=n) (by omega) m.length 0 m (by omega) rfl
 exact qlF (c:=c) (hgf:=hgf) (hgx:=hgx) (hgy:=hgy) (htx:=qp9 (by omega)) (hty:=qp9 (by omega)) (hs1:=s1) (hs2:=s2) (hm1:=m1) (hm2:=m2) (hq1:=qjh (by omega)) (hq2:=qjh (by omega)) (hl0:=h0) (hl1:=h1) (hq3:=qt0 c1 (by omega)) (hq4:=qjh (by omega)) (hq5:=qjh (by omega))
theorem qjA (rt:Int) (l:List Pt) (x:Int) (m:List Pt) (z:Int) (s:List Pt) (tn td:Int) (htn:I64 tn) (htd:I64 td) :
 Fn 5 3 [trS 0 rt l,trS 1 x m,.pv (iV z),qax 2 s,.pv (qad tn td)] [(0,0,qaa l),(1,0,qaa m),(2,0,qan s)] (.pv (.bool true)) 0 []:=qlZ htn htd
end
end Go.Proofs.Ytalnjplghagbpaa
