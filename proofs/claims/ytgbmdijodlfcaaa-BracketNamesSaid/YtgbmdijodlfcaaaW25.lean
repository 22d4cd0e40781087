/-
  Joined: Ka, Kc, Kf, Kj, Za, Zd, Ze. Conditions: none.
-/
import Derived.Test.YtgbmdijodlfcaaaW24
import Derived.Test.YtgbmdijodlfcaaaW21
import Derived.Test.YtgbmdijodlfcaaaSxJ
import Derived.Test.YtgbmdijodlfcaaaProg
namespace Go.Proofs.Ytgbmdijodlfcaaa
set_option maxRecDepth 100000
open Go.RowKit
def qrl (a b:Int):Bool:=decide (0≤a∧a≤65535∧0≤b∧b≤65535∧a≠b)
def Dis (l:List Pt):Prop:=∀ (i k:Nat) (p q:Pt),i<k→l[i]?=some p→l[k]?=some q→¬ (p.a=q.a∧p.b=q.b)
structure V8 (x:Int) (l:List Pt):Prop where
 len:l.length≤200
 ok:∀ p∈l,qrl p.a p.b=true
 up:Up l
 lo:∀ p∈l,0≤p.id
 hi:∀ p∈l,p.id<x
 nx:0≤x∧x≤1000000
 dis:Dis l
def qnP (l:List Pt):List (Value×Value):=l.map fun p=>(iV p.id,ptV p)
abbrev byV (l:List Pt):List Value:=kvL (qnP l)
theorem qjO (a:Int):MapK Try.prog 77 3 68 (iV a) (fun x=>∃ b,x=iV b) (qad 0 0 0):=
 qjU (by kernel_rfl) Try.underlying3 (fun w=>qda (by kernel_rfl) w) a
theorem qp2 (l:List Pt):∀ p∈qnP l,∃ b,p.1=iV b:=fun p hp=>by
 obtain⟨q,_,rfl⟩:=List.mem_map.1 hp
 exact⟨q.id,rfl⟩
theorem qdG {a b:Int} (h:iV a=iV b):a=b:=by injection h
theorem qq0 {l:List Pt} {a:Int} (h:∀ q∈l,q.id≠a) (ok:Bool):qaQ Try.prog 77 (byV l) (iV a) ok (if ok=true then .tuple #[qad 0 0 0,.bool false] else qad 0 0 0):=
 qif (qjO a) (qp2 l) (fun q hq e=>by
  obtain⟨r,hr,rfl⟩:=List.mem_map.1 hq
  exact h r hr (qdG e)) ok
theorem qpp {l:List Pt} {p:Pt} (hp:p∈l) (hu:∀ q∈l,q.id=p.id→q=p) (ok:Bool):qaQ Try.prog 77 (byV l) (iV p.id) ok (if ok=true then .tuple #[ptV p,.bool true] else ptV p):=
 qhf (v:=ptV p) (qjO p.id) (qp2 l) (List.mem_map.2 ⟨p,hp,rfl⟩) (fun r hr e=>by
  obtain⟨s,hs,rfl⟩:=List.mem_map.1 hr
  rw[hu s hs (qdG e)]) ok
theorem qoi {l:List Pt} {p:Pt} (h:∀ q∈l,q.id≠p.id):qdT Try.prog 77 (byV l) (iV p.id) (ptV p) (byV (l++[p])):=by
 have:=qjE (qjO p.id) (qp2 l) (fun q hq e=>by
  obtain⟨r,hr,rfl⟩:=List.mem_map.1 hq
  exact h r hr (qdG e)) (ptV p)
 show qdT _ _ _ _ _ (kvL (qnP (l++[p])))
 rw[show qnP (l++[p])=qnP l++[(iV p.id,ptV p)] by simp[qnP]]
 exact this
end Go.Proofs.Ytgbmdijodlfcaaa

namespace Go.Proofs.Ytgbmdijodlfcaaa
set_option maxRecDepth 100000
open Go.RowKit
def lst (m:List Pt):Int:=match m.getLast? with
 | none=>-1
 | some p=>p.id
theorem qjm:lst [] = -1:=rfl
theorem qho (m:List Pt) (p:Pt):lst (m++[p])=p.id:=by simp[lst]
def Inc (l:List Pt):Prop:=∀ (k:Nat) (p:Pt),l[k]?=some p→lst (l.take k)<p.id
theorem Inc.up {l:List Pt} (h:Inc l):Up l:=fun k p q hp hq=>by
 have:=h (k+1) q hq
 rw[qdF hp,qho] at this
 exact this
theorem Inc.lo {l:List Pt} (h:Inc l):∀ p∈l,0≤p.id:=by
 have key:∀ (k:Nat) (p:Pt),l[k]?=some p→0≤p.id:=by
  intro k
  induction k with
  | zero=>intro p hp;have:=h 0 p hp;rw[List.take_zero,qjm] at this;omega
  | succ k ih=>
   intro p hp
   obtain⟨q,hq⟩:=qaA (l:=l) (k:=k) (by have:=qaC hp;omega)
   have:=ih q hq
   have:=h.up k q p hq hp
   omega
 intro p hp
 obtain⟨k,hk,rfl⟩:=List.getElem_of_mem hp
 exact key k _ (List.getElem?_eq_getElem hk)
theorem Inc.lt {l:List Pt} (h:Inc l) {x:Int}:lst l<x↔(∀ p∈l,p.id<x)∧0≤x:=by
 have hup:=h.up
 have hlo:=h.lo
 rcases List.eq_nil_or_concat l with rfl | ⟨m,q,rfl⟩
 ·rw[qjm];exact⟨fun h=>⟨fun p hp=>by simp at hp,by omega⟩,fun h=>by omega⟩
 ·rw[List.concat_eq_append,qho]
  rw[List.concat_eq_append] at hup hlo
  refine⟨fun hx=>⟨fun p hp=>?_,by have:=hlo q (by simp);omega⟩,fun hx=>hx.1 q (by simp)⟩
  obtain⟨k,hk,rfl⟩:=List.getElem_of_mem hp
  rcases Nat.lt_or_ge k m.length with h1 | h1
  ·have:=hup.mono h1 (List.getElem?_eq_getElem hk) (show (m++[q])[m.length]?=some q by simp)
   omega
  ·have hkm:k=m.length:=by simp at hk;omega
   subst hkm
   simpa using hx
theorem qkU {l:List Pt} {k:Nat} {q:Pt} (h:q∈l.take k):∃ i,i<k∧l[i]?=some q:=by
 obtain⟨i,hi,rfl⟩:=List.getElem_of_mem h
 have hi':i<k∧i<l.length:=by simp at hi;omega
 exact⟨i,hi'.1,by rw[List.getElem_take];exact List.getElem?_eq_getElem hi'.2⟩
end Go.Proofs.Ytgbmdijodlfcaaa

namespace Go.Proofs.Ytgbmdijodlfcaaa
set_option maxRecDepth 100000
open Go.RowKit
theorem qpk {l:List Pt} (hu:Up l) {i j:Nat} {p q:Pt} (hp:l[i]?=some p) (hq:l[j]?=some q) (h:p.id=q.id):i=j∧p=q:=by
 rcases Nat.lt_trichotomy i j with e | e | e
 ·have:=hu.mono e hp hq;omega
 ·subst e;rw[hp] at hq;cases hq;exact⟨rfl,rfl⟩
 ·have:=hu.mono e hq hp;omega
noncomputable def qq8 (l:List Pt) (a b:Int):Bool:=open Classical in decide (∃ p∈l,p.a=a∧p.b=b)
theorem qpI {l:List Pt} {a b:Int}:qq8 l a b=true↔∃ p∈l,p.a=a∧p.b=b:=by unfold qq8;exact decide_eq_true_iff
end Go.Proofs.Ytgbmdijodlfcaaa

namespace Go.Proofs.Ytgbmdijodlfcaaa
set_option maxRecDepth 100000
open Go.RowKit
def names (n:Int) (p:Pt):Bool:=decide (p.a=n∨p.b=n)
theorem qjJ {s:List Pt} (hs:Val s) {p q:Pt} (hp:p∈s) (hq:q∈s) (h:p.id=q.id):p=q:=by
 obtain⟨i,hi,rfl⟩:=List.getElem_of_mem hp
 obtain⟨j,hj,rfl⟩:=List.getElem_of_mem hq
 exact (qpk hs.up (List.getElem?_eq_getElem hi) (List.getElem?_eq_getElem hj) h).2
theorem qjB {s:List Pt} (hs:Val s) {q:Pt} (hq:q∈s) {i:Int} (h:q.id=i) (ok:Bool):qaQ Try.prog 77 (byV s) (iV i) ok (if ok=true then .tuple #[ptV q,.bool true] else ptV q):=by
 subst h
 exact qpp hq (fun r hr e=>qjJ hs hr hq e) ok
theorem qlI {s:List Pt} {i:Int} (h:¬ ∃ q∈s,q.id=i):qaQ Try.prog 77 (byV s) (iV i) true (.tuple #[qad 0 0 0,.bool false]):=qq0 (fun q hq e=>h ⟨q,hq,e⟩) true
section
variable {tn td:Int} (htn:I64 tn) (htd:I64 td)
end
end Go.Proofs.Ytgbmdijodlfcaaa

namespace Go.Proofs.Ytgbmdijodlfcaaa
set_option maxRecDepth 100000
open Go.RowKit
theorem qjy {P:Program} (n:Nat) {f:FuncId} {args:List Value} (ch:List Ch) {v:Value} {T:Prop} (ht:v=v∧T) (e:qpw v (qpB P n f args ch)=(v=v∧T)):Pure P f args.toArray v:=qiv n ch (e▸ht)
def ziV (l:List Int):List Value:=l.map fun x=>iV x
abbrev zrI (l:List Int):SV:=.row 3 1 l.length (ziV l)
theorem qek (l:List Int):(ziV l).length=l.length:=by simp[ziV]
theorem qdp {l:List Int} {k:Nat} {x:Int} (h:l[k]?=some x):qit (ziV l) (0*1+k*1) [iV x]:=by
 intro j v hj
 match j,hj with
 | 0,hj=>cases hj;simp[ziV,h]
 | j+1,hj=>simp at hj
theorem qnX {l:List Int} {z:Int} {x:Int} (h:l[z.toNat]?=some x):qit (ziV l) (0*1+z.toNat*1) [iV x]:=qdp h
theorem qpE (l:List Int) (k:Nat) (x:Int) (h:k<l.length):ziV (l.set k x)=qh9 (ziV l) (0*1+k*1) [iV x]:=by
 rw[Nat.zero_mul,Nat.zero_add,Nat.mul_one]
 unfold qh9 ziV
 rw[List.map_set,List.set_eq_take_append_cons_drop,if_pos (by simpa using h)]
 simp
theorem qg6 (l:List Int) (k:Nat) (h:k<l.length):0*1+k*1+1≤(ziV l).length:=by rw[qek];omega
theorem qlC:∀ n:Nat,qc7 [iV 0] n=ziV (List.replicate n 0)
 | 0=>rfl
 | n+1=>by rw[qc7,qlC n];rfl
theorem qem (a b:List Int):ziV (a++b)=ziV a++ziV b:=by simp[ziV]
theorem qcE (l:List Int):∀ v∈ziV l,v.oneCell'=true:=by
 intro v hv
 obtain⟨x,_,rfl⟩:=List.mem_map.1 hv
 rfl
theorem RunsL.roundsZ {P:Program} {lo fr:Nat} {c:Code} {n nb:Nat} (tm:Nat→List (Nat×SV)) (hp:Nat→List (Nat×Nat×SV)) {e:Exit} {tm2:TmL} {hp2:HpL} {N:Nat} :
 ∀ (d i:Nat),i+d=N→(∀ j,i≤j→j<N→RunsL P lo fr c n nb (tm (j+1)) (hp (j+1)) e tm2 hp2→RunsL P lo fr c n nb (tm j) (hp j) e tm2 hp2)→RunsL P lo fr c n nb (tm N) (hp N) e tm2 hp2→RunsL P lo fr c n nb (tm i) (hp i) e tm2 hp2
 | 0,i,h,_,last=>by
  have:i=N:=by omega
  subst this;exact last
 | d+1,i,h,step,last=>step i (Nat.le_refl i) (by omega) (RunsL.roundsZ tm hp d (i+1) (by omega) (fun j h1 h2=>step j (by omega) h2) last)
theorem qo9 {n:Int} (h0 : -9223372036854775808≤n) (h1:n≤9223372036854775807):IntKind.i64.wrap n=n:=by
 rw[IntKind.wrap_i64];omega
theorem qc8 {n:Int} (h0 : -9223372036854775808≤n) (h1:n≤9223372036854775807):iV (IntKind.i64.wrap n)=iV n:=by rw[qo9 h0 h1]
def qcZ:List Bool→List Int→Option (List Bool)
 | g,[]=>some g
 | g,x::r=>if 0≤x∧x<(g.length:Int)∧g[x.toNat]?=some true then qcZ (g.set x.toNat false) r else none
structure Vd (u:List Int) (b:List Bool) (f:List Int):Prop where
 pos:1≤u.length
 le:u.length≤200
 len:b.length=u.length
 use:∀ (k:Nat) (x:Int) (c:Bool),u[k]?=some x→b[k]?=some c→(if c=true then 1 else 0)≤x∧x≤1000000
 rng:∀ x∈f,0≤x∧x<(u.length:Int)
 nod:f.Nodup
 part:∀ (k:Nat) (c:Bool),b[k]?=some c→(c=false↔(k:Int)∈f)
theorem qdi:∀ {f:List Int} {g g':List Bool},qcZ g f=some g'→(∀ x∈f,0≤x∧x<(g.length:Int)∧g[x.toNat]?=some true)∧f.Nodup∧∀ k:Nat,g'[k]?=if (k:Int)∈f then some false else g[k]?
 | [],g,g',h=>by cases h;exact⟨by simp,by simp,by simp⟩
 | x::r,g,g',h=>by
  unfold qcZ at h
  split at h
  ·rename_i hx
   obtain⟨h1,h2,h3⟩:=qdi h
   have hn:x∉r:=fun hm=>by
    have:=(h1 x hm).2.2
    rw[List.getElem?_set] at this
    rw[if_pos rfl] at this
    split at this<;>cases this
   refine⟨fun y hy=>?_,List.nodup_cons.2 ⟨hn,h2⟩,fun k=>?_⟩
   ·rcases List.mem_cons.1 hy with rfl | hy
    ·exact hx
    ·obtain⟨a1,a2,a3⟩:=h1 y hy
     rw[List.length_set] at a2
     refine⟨a1,a2,?_⟩
     rw[List.getElem?_set] at a3
     split at a3
     ·split at a3<;>cases a3
     ·exact a3
   ·rw[h3]
    by_cases hk:(k:Int)∈r
    ·rw[if_pos hk,if_pos (List.mem_cons_of_mem _ hk)]
    ·rw[if_neg hk,List.getElem?_set]
     by_cases e:(k:Int)=x
     ·rw[if_pos (show x.toNat=k by omega),if_pos (by omega),if_pos (by rw[e];exact List.mem_cons_self)]
     ·rw[if_neg (show ¬ x.toNat=k by omega),if_neg (fun hm=>by rcases List.mem_cons.1 hm with h | h;exact e h;exact hk h)]
  ·cases h
theorem qep:∀ {f:List Int} {g:List Bool},(∀ x∈f,0≤x∧x<(g.length:Int)∧g[x.toNat]?=some true)→f.Nodup→∃ g',qcZ g f=some g'
 | [],g,_,_=>⟨g,rfl⟩
 | x::r,g,h,hn=>by
  obtain⟨h1,h2⟩:=List.nodup_cons.1 hn
  unfold qcZ
  rw[if_pos (h x List.mem_cons_self)]
  refine qep (fun y hy=>?_) h2
  obtain⟨a1,a2,a3⟩:=h y (List.mem_cons_of_mem _ hy)
  refine⟨a1,by rw[List.length_set];exact a2,?_⟩
  rw[List.getElem?_set,if_neg]
  ·exact a3
  ·intro e
   have hx:=(h x List.mem_cons_self).1
   have:x=y:=by omega
   subst this
   exact h1 hy
def qjW (b:List Bool) (f:List Int):Bool:=match qcZ (b.map not) f with
 | some g=>!g.contains true
 | none=>false
def qqP (u:List Int) (b:List Bool):Bool:=(List.range b.length).all fun k=>match u[k]?,b[k]? with
 | some x,some c=>decide ((if c=true then 1 else 0)≤x)&&decide (x≤1000000)
 | _,_=>false
def qiM (u:List Int) (b:List Bool) (f:List Int):Bool:=decide (1≤u.length)&&decide (u.length≤200)&&decide (b.length=u.length)&&qqP u b&&qjW b f
theorem qgI {u:List Int} {b:List Bool} (h:b.length=u.length):qqP u b=true↔∀ (k:Nat) (x:Int) (c:Bool),u[k]?=some x→b[k]?=some c→(if c=true then 1 else 0)≤x∧x≤1000000:=by
 unfold qqP
 rw[List.all_eq_true]
 constructor
 ·intro h1 k x c hx hc
  have hk:k<b.length:=(List.getElem?_eq_some_iff.1 hc).1
  have:=h1 k (List.mem_range.2 hk)
  rw[hx,hc] at this
  simpa using this
 ·intro h1 k hk
  have hk':=List.mem_range.1 hk
  rw[List.getElem?_eq_getElem (by omega:k<u.length),List.getElem?_eq_getElem hk']
  simpa using h1 k _ _ (List.getElem?_eq_getElem (by omega:k<u.length)) (List.getElem?_eq_getElem hk')
theorem qfB {b:List Bool} {f:List Int}:qjW b f=true↔(∀ x∈f,0≤x∧x<(b.length:Int))∧f.Nodup∧∀ (k:Nat) (c:Bool),b[k]?=some c→(c=false↔(k:Int)∈f):=by
 unfold qjW
 constructor
 ·intro h
  split at h
  ·rename_i g hg
   obtain⟨h1,h2,h3⟩:=qdi hg
   refine⟨fun x hx=>?_,h2,fun k c hc=>⟨fun e=>?_,fun hm=>?_⟩⟩
   ·obtain⟨a1,a2,_⟩:=h1 x hx
    exact⟨a1,by simpa using a2⟩
   ·subst e
    by_cases hm:(k:Int)∈f
    ·exact hm
    ·have:=h3 k
     rw[if_neg hm,List.getElem?_map,hc] at this
     have hin:true∈g:=List.mem_of_getElem? this
     simp[hin] at h
   ·obtain⟨_,_,a3⟩:=h1 _ hm
    rw[Int.toNat_natCast,List.getElem?_map,hc] at a3
    simpa using a3
  ·cases h
 ·rintro⟨h1,h2,h3⟩
  obtain⟨g,hg⟩:=qep (g:=b.map not) (f:=f) (fun x hx=>by
   obtain⟨a1,a2⟩:=h1 x hx
   have hk:x.toNat<b.length:=by omega
   refine⟨a1,by simpa using a2,?_⟩
   rw[List.getElem?_map,List.getElem?_eq_getElem hk]
   have:=(h3 x.toNat _ (List.getElem?_eq_getElem hk)).2 (by rw[Int.toNat_of_nonneg a1];exact hx)
   rw[this];rfl) h2
  rw[hg]
  obtain⟨_,_,h6⟩:=qdi hg
  have:true∉g:=by
   intro hm
   obtain⟨k,hk⟩:=List.mem_iff_getElem?.1 hm
   have e:=h6 k
   rw[hk] at e
   split at e
   ·cases e
   ·rename_i hn
    rw[List.getElem?_map] at e
    cases hb:b[k]? with
    | none=>rw[hb] at e;cases e
    | some c=>
     rw[hb] at e
     cases c
     ·exact hn ((h3 k _ hb).1 rfl)
     ·cases e
  simp[this]
theorem qhF {u:List Int} {b:List Bool} {f:List Int}:qiM u b f=true↔Vd u b f:=by
 unfold qiM
 simp only[Bool.and_eq_true,decide_eq_true_eq]
 constructor
 ·rintro⟨⟨⟨⟨h1,h2⟩,h3⟩,h4⟩,h5⟩
  obtain⟨a1,a2,a3⟩:=qfB.1 h5
  exact⟨h1,h2,h3,(qgI h3).1 h4,by rw[← h3];exact a1,a2,a3⟩
 ·intro h
  exact⟨⟨⟨⟨h.pos,h.le⟩,h.len⟩,(qgI h.len).2 h.use⟩,qfB.2 ⟨by rw[h.len];exact h.rng,h.nod,h.part⟩⟩
end Go.Proofs.Ytgbmdijodlfcaaa

namespace Go.Proofs.Ytgbmdijodlfcaaa
set_option maxRecDepth 100000
open Go.RowKit
theorem qqX (n:Nat):SV.ls 2 (0+n)=(SV.ls 1 n).ren (qaV [(1,2)]):=by rw[Nat.zero_add];rfl
theorem qmJ (e:TypeId) (n:Nat) (xs:List Value):some (SV.row e 1 (0+n) ([]++xs))=some (SV.row e 1 n xs):=by rw[Nat.zero_add,List.nil_append]
theorem qk1 {l:List Int} (h0:0<l.length) (hn:0+l.length≤1000000) :
 Fn 40 1 [.ls 0 l.length] [(0,0,zrI l)] (.ls 1 l.length) 1 [(1,0,zrI l)]:=
 Fx [(1,2)] [.t false]
  (qqX l.length) (Ai (qmJ 3 l.length (ziV l)) tI) (Ai h0 (Ai hn tI))
theorem qp6 {ad:Addr} {c:Nat} :
 Fn 40 0 [.pv (.slice (some ad) 0 c)] [] (.ls 0 0) 1 [(0,0,.row 3 1 0 [])]:=
 Fz [(0,1)] [.k]
  (qcv (qaV [(0,1)]) [(0,0,.row 3 1 0 [])]) (Ai (Nat.zero_le _:0+0≤1000000) tI)
theorem qns {c:Nat}:Pure Try.prog 40 #[.slice none 0 c] (.slice none 0 0):=
 qjy (args:=[.slice none 0 c]) 200 [] (Ai rfl tI) (by kernel_rfl)
end Go.Proofs.Ytgbmdijodlfcaaa

namespace Go.Proofs.Ytgbmdijodlfcaaa
set_option maxRecDepth 100000
open Go.RowKit
theorem qfv {k b o:Nat} {s t:SV} (h:qab [(k,0,s)] b o=some t):b=k∧o=0∧t=s:=by
 rw[qaa] at h
 split at h
 ·rename_i e;cases h;exact⟨e.1.symm,e.2.symm,rfl⟩
 ·cases h
theorem qgP {W w':World} {β:Bl} {k:Nat} {pre:List (Nat×Nat×SV)} {u:Value} {e:TypeId} {es n:Nat} {xs:List Value} (H:HRel W k β pre W) (hd:β.dom k) (hg:Gr W w') (ho:w'.ownsRow W.heap.size e es u n xs) (h1:∀ v∈xs,v.oneCell'=true) :
 HRel W k (β.setG k u) [(k,0,.row e es n xs)] w':=by
 refine⟨hg,fun b r h=>Nat.lt_of_lt_of_le (H.live b r h) hg.size,H.inj,fun b r hb h=>?_,fun b r h=>?_,fun b o sv hl hs=>?_,fun b o e es n xs hl=>?_,fun b o e es n xs c o' e' es' n' xs' u v hl hl' h1 h2 hne=>?_,fun b o xs hl=>?_⟩
 ·have h':β b=some r:=h
  rw[(hd b hb).1] at h';cases h'
 ·have hb:b≠k:=fun e=>by
   subst e
   have h':β b=some r:=h
   rw[(hd b (Nat.le_refl _)).1] at h';cases h'
  unfold Bl.setG
  simp only[if_neg hb]
  exact H.sep b r h
 ·obtain⟨_,_,rfl⟩:=qfv hl;cases hs
 ·obtain⟨rfl,_,e1⟩:=qfv hl
  cases e1
  exact⟨u,Bl.setG_same β b u,qe3 ho,h1,fun h=>by omega,fun _=>ho,fun _ c r hc hu=>by
   have h1:=(qae ho r hu).1
   have h2:=H.live c r hc
   omega⟩
 ·exact (hne ((qfv hl).1.trans (qfv hl').1.symm)).elim
 ·obtain⟨_,_,e1⟩:=qfv hl;cases e1
theorem qfx {β:Bl} {k:Nat} {u:Value} (hd:β.dom k):(β.setG k u).dom (k+1):=fun b hb=>⟨(hd b (by omega)).1,by unfold Bl.setG;simp only[if_neg (show b≠k by omega)];exact (hd b (by omega)).2⟩
theorem qef (w:World):HRel w 0 Bl.no [] w:=⟨Gr.refl w,fun _ _ h=>(by cases h),fun _ _ _ h=>(by cases h),fun _ _ _ h=>(by cases h),fun _ _ h=>(by cases h),fun _ _ _ h=>(by cases h),fun _ _ _ _ _ _ h=>(by cases h),fun _ _ _ _ _ _ _ _ _ _ _ _ _ _ h=>(by cases h),fun _ _ _ h=>(by cases h)⟩
theorem qnS {f:FuncId} {e:TypeId} {n:Nat} {xs:List Value} (hx:xs.length=n)
 (pth:0<n→Fn f 1 [.ls 0 n] [(0,0,.row e 1 n xs)] (.ls 1 n) 1 [(1,0,.row e 1 n xs)])
 (pe:∀ ad c,Fn f 0 [.pv (.slice (some ad) 0 c)] [] (.ls 0 0) 1 [(0,0,.row e 1 0 [])])
 (pn:∀ c,Pure Try.prog f #[.slice none 0 c] (.slice none 0 0)):Fn f 1 [.ls 0 n] [(0,0,.row e 1 n xs)] (.ls 1 n) 1 [(1,0,.row e 1 n xs)]:=by
 rcases Nat.eq_zero_or_pos n with h | h
 ·subst h
  obtain rfl:=List.eq_nil_of_length_eq_zero hx
  intro w β us hH hd hargs
  match us,hargs with
  | [v],⟨⟨_,a,c,hv⟩,_⟩=>
   have hd1:=hd 1 (Nat.le_refl _)
   cases a with
   | none=>
    subst hv
    refine (pn c w).mono fun e' w' ⟨he,hg⟩=>?_
    have ho:w'.ownsRow w.heap.size e 1 (.slice none 0 0) 0 []:=⟨rfl,Or.inl ⟨rfl,rfl⟩⟩
    exact⟨_,β.setG 1 (.slice none 0 0),he,Bl.le_setG hd1.1 hd1.2,⟨Bl.setG_same _ _ _,none,0,rfl⟩,qgP hH hd hg ho (fun v hv=>by cases hv),qfx hd⟩
   | some ad=>
    subst hv
    refine (pe ad c w Bl.no [.slice (some ad) 0 c] (qef w) (fun _ _=>⟨rfl,rfl⟩) ⟨rfl,tI⟩).mono fun e' w' ⟨v,β',he,_,⟨hx,a',c',hv⟩,hh,_⟩=>?_
    obtain⟨u,hu,hr⟩:=hh.rows 0 0 _ _ _ _ rfl
    rw[hx] at hu
    cases hu
    exact⟨_,β.setG 1 v,he,Bl.le_setG hd1.1 hd1.2,⟨Bl.setG_same _ _ _,a',c',hv⟩,qgP hH hd hh.gr (hr.own (Nat.le_refl _)) (fun v hv=>by cases hv),qfx hd⟩
 ·exact pth h
theorem qby {l:List Int} (hn:l.length≤1000000):Fn 40 1 [.ls 0 l.length] [(0,0,zrI l)] (.ls 1 l.length) 1 [(1,0,zrI l)]:=
 qnS (qek l) (fun h=>qk1 h (by omega)) (fun ad c=>qp6) (fun c=>qns)
section
variable {u fr:List Int} {b:List Bool}
structure Live (u:List Int) (b:List Bool) (hi hu:Int):Prop where
 lo:0≤hi
 lt:hi<(u.length:Int)
 used:b[hi.toNat]?=some true
 use:u[hi.toNat]?=some hu
def qmV (u:List Int) (b:List Bool) (fr:List Int):Option (List Int×List Bool×List Int×Int×Int):=
 match fr.getLast? with
 | none=>none
 | some x=>match u[x.toNat]? with
  | none=>none
  | some y=>if y=1000000 then none else some (u.set x.toNat (y+1),b.set x.toNat true,fr.dropLast,x,y+1)
theorem qhV {u' fr':List Int} {b':List Bool} {x z:Int} (h:qmV u b fr=some (u',b',fr',x,z)):∃ y,fr.getLast?=some x∧u[x.toNat]?=some y∧y≠1000000∧u'=u.set x.toNat z∧b'=b.set x.toNat true∧fr'=fr.dropLast∧z=y+1:=by
 unfold qmV at h
 split at h
 ·cases h
 ·rename_i x' hx
  split at h
  ·cases h
  ·rename_i y hy
   split at h
   ·cases h
   ·rename_i hne
    simp only[Option.some.injEq,Prod.mk.injEq] at h
    obtain⟨rfl,rfl,rfl,rfl,rfl⟩:=h
    exact⟨y,hx,hy,hne,rfl,rfl,rfl,rfl⟩
theorem qhX {l:List Int} {x:Int} (h:l.getLast?=some x):l=l.dropLast++[x]∧l[l.length-1]?=some x∧1≤l.length:=by
 have hne:l≠[]:=fun e=>by subst e;cases h
 rw[List.getLast?_eq_some_getLast hne] at h
 cases h
 refine⟨(List.dropLast_concat_getLast hne).symm,?_,List.length_pos_iff.2 hne⟩
 rw[List.getLast_eq_getElem]
 exact List.getElem?_eq_getElem _
theorem qcX:∀ {f:List Int} {g g':List Bool},qcZ g f=some g'→f.length+g'.count true=g.count true
 | [],g,g',h=>by cases h;simp
 | x::r,g,g',h=>by
  unfold qcZ at h
  split at h
  ·rename_i hx
   have:=qcX h
   have hk:x.toNat<g.length:=by omega
   have hg:g[x.toNat]=true:=by
    have:=hx.2.2
    rw[List.getElem?_eq_getElem hk] at this
    exact Option.some.inj this
   have hm:0<g.count true:=List.count_pos_iff.2 (by rw[← hg];exact List.getElem_mem hk)
   rw[List.count_set hk,hg] at this
   simp at this ⊢
   omega
  ·cases h
theorem Vd.frlen (h:Vd u b fr):fr.length≤200:=by
 have hf:qjW b fr=true:=by
  have:=qhF.2 h
  unfold qiM at this
  simp only[Bool.and_eq_true] at this
  exact this.2
 unfold qjW at hf
 split at hf
 ·rename_i g hg
  have:=qcX hg
  have:=List.count_le_length (a:=true) (l:=b.map not)
  rw[List.length_map,h.len] at this
  have:=h.le
  omega
 ·cases hf
theorem Vd.take {u' fr':List Int} {b':List Bool} {x z:Int} (h:Vd u b fr) (ht:qmV u b fr=some (u',b',fr',x,z)):Vd u' b' fr':=by
 obtain⟨y,h1,h2,h3,rfl,rfl,rfl,rfl⟩:=qhV ht
 obtain⟨e,_,_⟩:=qhX h1
 have hx:x∈fr:=by rw[e];simp
 obtain⟨r1,r2⟩:=h.rng x hx
 have hnd:=h.nod
 rw[e,List.nodup_append] at hnd
 obtain⟨n1,_,n2⟩:=hnd
 have hxn:x∉fr.dropLast:=fun hm=>n2 x hm x (by simp) rfl
 have hk:x.toNat<u.length:=by omega
 have hbk:x.toNat<b.length:=by rw[h.len];omega
 have hy:=h.use x.toNat y _ h2 (List.getElem?_eq_getElem hbk)
 have hy0:0≤y:=by have:=hy.1;split at this<;>omega
 refine⟨by rw[List.length_set];exact h.pos,by rw[List.length_set];exact h.le,by rw[List.length_set,List.length_set];exact h.len,fun k v c hv hc=>?_,fun v hv=>?_,n1,fun k c hc=>?_⟩
 ·rw[List.getElem?_set] at hv hc
  by_cases ek:x.toNat=k
  ·rw[if_pos ek,if_pos (by omega)] at hv hc
   cases hv;cases hc
   simp;omega
  ·rw[if_neg ek] at hv hc
   exact h.use k v c hv hc
 ·rw[List.length_set];exact h.rng v (by rw[e];simp[hv])
 ·rw[List.getElem?_set] at hc
  by_cases ek:x.toNat=k
  ·rw[if_pos ek,if_pos (by omega)] at hc
   cases hc
   simp only[Bool.true_eq_false,false_iff]
   rw[show (k:Int)=x by omega]
   exact hxn
  ·rw[if_neg ek] at hc
   rw[h.part k c hc]
   conv=>lhs;rw[e]
   simp only[List.mem_append,List.mem_singleton]
   constructor
   ·rintro (hm | hm)
    ·exact hm
    ·omega
   ·exact Or.inl
def qnW (n:Nat):List Int:=(List.range n).map fun (k:Nat)=>(n:Int)-1-(k:Int)
theorem Vd.new {n:Nat} (h1:1≤n) (h2:n≤200):Vd (List.replicate n 0) (List.replicate n false) (qnW n):=by
 refine⟨by simpa using h1,by simpa using h2,by simp,fun k x c hx hc=>?_,fun x hx=>?_,?_,fun k c hc=>?_⟩
 ·have e1:=List.eq_of_mem_replicate (List.mem_of_getElem? hx)
  have e2:=List.eq_of_mem_replicate (List.mem_of_getElem? hc)
  subst e1;subst e2;simp
 ·obtain⟨k,hk,rfl⟩:=List.mem_map.1 hx
  have:=List.mem_range.1 hk
  simp;omega
 ·unfold qnW
  rw[List.nodup_iff_pairwise_ne,List.pairwise_map]
  exact (List.nodup_range (n:=n)).imp_of_mem fun ha hb hab e=>by omega
 ·have e2:=List.eq_of_mem_replicate (List.mem_of_getElem? hc)
  subst e2
  have hk:k<n:=by have:=(List.getElem?_eq_some_iff.1 hc).1;simpa using this
  simp only[true_iff]
  exact List.mem_map.2 ⟨n-1-k,List.mem_range.2 (by omega),by omega⟩
end
end Go.Proofs.Ytgbmdijodlfcaaa
