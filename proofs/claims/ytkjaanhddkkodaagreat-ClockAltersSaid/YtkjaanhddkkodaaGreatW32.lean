/-
  Joined: Zg, Ya. Conditions: none.
-/
import Derived.Test.YtkjaanhddkkodaaGreatW31
import Derived.Test.YtkjaanhddkkodaaGreatW18
import Derived.Test.YtkjaanhddkkodaaGreatW19
import Derived.Test.YtkjaanhddkkodaaGreatW22
namespace Go.Proofs.YtkjaanhddkkodaaGreat
set_option maxRecDepth 100000
open Go.RowKit
def mark:List Bool→List Int→Option (List Bool)
 | g,[]=>some g
 | g,x::r=>if 0≤x∧x<(g.length:Int)∧g[x.toNat]?=some false then mark (g.set x.toNat true) r else none
theorem qcq:∀ (f:List Int) (g:List Bool),mark g f=(qbq (g.map not) f).map (List.map not)
 | [],g=>by simp[mark,qbq,List.map_map,Function.comp_def]
 | x::r,g=>by
  unfold mark qbq
  have e1:(g.map not).length=g.length:=by simp
  have e2:((g.map not)[x.toNat]?=some true)↔(g[x.toNat]?=some false):=by
   rw[List.getElem?_map]
   cases g[x.toNat]? with
   | none=>simp
   | some c=>cases c<;>simp
  have e3:(g.set x.toNat true).map not=(g.map not).set x.toNat false:=by rw[List.map_set];rfl
  rw[e1]
  by_cases h:0≤x∧x<(g.length:Int)∧g[x.toNat]?=some false
  ·rw[if_pos h,if_pos ⟨h.1,h.2.1,e2.2 h.2.2⟩,qcq r,e3]
  ·rw[if_neg h,if_neg (fun h'=>h ⟨h'.1,h'.2.1,e2.1 h'.2.2⟩)];rfl
theorem qkn {f:List Int} {g g':List Bool} (h:mark g f=some g'):g'.length=g.length:=by
 rw[qcq] at h
 cases hs:qbq (g.map not) f with
 | none=>rw[hs] at h;cases h
 | some k=>rw[hs] at h;cases h;rw[List.length_map,qd1 hs,List.length_map]
theorem qm3 {n:Nat} {f:List Int} {g:List Bool} (h:mark (List.replicate n false) f=some g):(∀ x∈f,0≤x∧x<(n:Int))∧f.Nodup∧∀ k,k<n→(g[k]?=some true↔(k:Int)∈f):=by
 rw[qcq] at h
 cases hs:qbq ((List.replicate n false).map not) f with
 | none=>rw[hs] at h;cases h
 | some t=>
  rw[hs] at h
  cases h
  obtain⟨h1,h2,h3⟩:=qdB hs
  refine⟨fun x hx=>?_,h2,fun k hk=>?_⟩
  ·obtain⟨a1,a2,_⟩:=h1 x hx
   exact⟨a1,by simpa using a2⟩
  ·rw[List.getElem?_map,h3]
   by_cases hm:(k:Int)∈f
   ·rw[if_pos hm];simp[hm]
   ·rw[if_neg hm]
    simp[hm,hk]
theorem qpu {n:Nat} {f:List Int} (h1:∀ x∈f,0≤x∧x<(n:Int)) (h2:f.Nodup):∃ g,mark (List.replicate n false) f=some g:=by
 obtain⟨g,hg⟩:=qeb (f:=f) (g:=(List.replicate n false).map not) (fun x hx=>by
  obtain⟨a1,a2⟩:=h1 x hx
  refine⟨a1,by simpa using a2,?_⟩
  rw[List.getElem?_map,List.getElem?_replicate,if_pos (by omega)];rfl) h2
 exact⟨g.map not,by rw[qcq,hg];rfl⟩
def qB1 (u:List Int) (b g:List Bool) (k:Nat):Prop:=∀ (y:Int) (c d:Bool),u[k]?=some y→b[k]?=some c→g[k]?=some d→0≤y∧y≤1000000∧c≠d∧(c=true→1≤y)
section
variable {u fr:List Int} {b:List Bool}
abbrev qA5 (u:List Int) (b:List Bool) (fr:List Int) (g:List Bool):List (Nat×Nat×SV):=[(3,0,.ls 0 u.length),(3,1,.ls 1 b.length),(3,2,.ls 2 fr.length),(0,0,zrI u),(1,0,zrB b),(2,0,zrI fr),(4,0,.row 4 1 u.length (zbV g))]
theorem qfg (hf:fr.length≤1000000):∀ (d k:Nat) (g:List Bool),k+d=fr.length→g.length=u.length→
 (∀ g',mark g (fr.drop k)=some g'→Rl 3 3 129 0 117 5 [(1,.pp 3 0),(3,.pv (iV (u.length:Int))),(4,.ls 4 u.length),(5,.pv (iV (k:Int)))] (qA5 u b fr g) (.exit 0) [(1,.pp 3 0),(3,.pv (iV (u.length:Int))),(4,.ls 4 u.length)] (qA5 u b fr g'))∧
 (mark g (fr.drop k)=none→Rl 3 3 129 0 117 5 [(1,.pp 3 0),(3,.pv (iV (u.length:Int))),(4,.ls 4 u.length),(5,.pv (iV (k:Int)))] (qA5 u b fr g) .ret [(2,.pv (iV 8))] [])
 | 0,k,g,h,hg=>by
  have e:fr.drop k=[]:=List.drop_eq_nil_iff.2 (by omega)
  rw[e]
  refine⟨fun g' h'=>?_,fun h'=>(by cases h')⟩
  cases h'
  exact qwb (by simp;omega)
 | d+1,k,g,h,hg=>by
  have hk:k<fr.length:=by omega
  obtain⟨x,hx⟩:∃ x,fr[k]?=some x:=⟨_,List.getElem?_eq_getElem hk⟩
  have e:fr.drop k=x::fr.drop (k+1):=by
   rw[List.drop_eq_getElem_cons hk]
   rw[List.getElem?_eq_getElem hk] at hx
   cases hx;rfl
  have i1:0≤(k:Int)∧(k:Int)<(fr.length:Int):=by omega
  have lt:decide ((k:Int)<(fr.length:Int))=true:=by simp;omega
  rw[e]
  unfold mark
  by_cases h0:x<0
  ·rw[if_neg (by omega)]
   exact⟨fun g' h'=>(by cases h'),fun _=>qvg hx i1 lt (by simpa using h0)⟩
  ·have n0:decide (x<0)=false:=by simpa using h0
   by_cases h1:x≥(u.length:Int)
   ·rw[if_neg (by omega)]
    exact⟨fun g' h'=>(by cases h'),fun _=>qti hx i1 lt n0 (by simpa using h1)⟩
   ·have n1:decide (x≥(u.length:Int))=false:=decide_eq_false h1
    have hxl:x.toNat<g.length:=by omega
    have hix:0≤x∧x<(u.length:Int):=by omega
    obtain⟨c,hc⟩:∃ c,g[x.toNat]?=some c:=⟨_,List.getElem?_eq_getElem hxl⟩
    cases c with
    | true=>
     rw[if_neg (fun h'=>by rw[hc] at h';cases h'.2.2)]
     exact⟨fun g' h'=>(by cases h'),fun _=>qmX hx i1 lt n0 n1 hix hc⟩
    | false=>
     rw[if_pos ⟨hix.1,by omega,hc⟩]
     obtain⟨i3,i4⟩:=qfg hf d (k+1) (g.set x.toNat true) (by omega) (by rw[List.length_set];exact hg)
     exact⟨fun g' h'=>qki hx i1 lt n0 n1 hix hc hxl (qaE (by omega)) (i3 g' h'),fun h'=>qki hx i1 lt n0 n1 hix hc hxl (qaE (by omega)) (i4 h')⟩
theorem qfb {g:List Bool} (hn:u.length≤1000000) (hb:b.length=u.length) (hg:g.length=u.length):∀ (d k:Nat),k+d=u.length→
 ((∀ j,k≤j→j<u.length→qB1 u b g j)→Rl 3 3 129 1 117 5 [(1,.pp 3 0),(3,.pv (iV (u.length:Int))),(4,.ls 4 u.length),(6,.pv (iV (k:Int)))] (qA5 u b fr g) (.exit 2) [] [])∧
 (¬ (∀ j,k≤j→j<u.length→qB1 u b g j)→Rl 3 3 129 1 117 5 [(1,.pp 3 0),(3,.pv (iV (u.length:Int))),(4,.ls 4 u.length),(6,.pv (iV (k:Int)))] (qA5 u b fr g) .ret [(2,.pv (iV 8))] [])
 | 0,k,h=>⟨fun _=>qtV (by simp;omega),fun hno=>(hno fun j h1 h2=>by omega).elim⟩
 | d+1,k,h=>by
  have hk:k<u.length:=by omega
  obtain⟨y,hy⟩:∃ y,u[k]?=some y:=⟨_,List.getElem?_eq_getElem hk⟩
  obtain⟨c,hc⟩:∃ c,b[k]?=some c:=⟨_,List.getElem?_eq_getElem (by omega)⟩
  obtain⟨q,hq⟩:∃ q,g[k]?=some q:=⟨_,List.getElem?_eq_getElem (by omega)⟩
  obtain⟨i3,i4⟩:=qfb hn hb hg d (k+1) (by omega)
  have i1:0≤(k:Int)∧(k:Int)<(u.length:Int):=by omega
  have i2:0≤(k:Int)∧(k:Int)<(b.length:Int):=by omega
  have lt:decide ((k:Int)<(u.length:Int))=true:=by simp;omega
  have split:(∀ j,k≤j→j<u.length→qB1 u b g j)↔(0≤y∧y≤1000000∧c≠q∧(c=true→1≤y))∧∀ j,k+1≤j→j<u.length→qB1 u b g j:=by
   constructor
   ·intro H
    exact⟨H k (Nat.le_refl _) hk y c q hy hc hq,fun j h1 h2=>H j (by omega) h2⟩
   ·rintro⟨H1,H2⟩ j h1 h2
    by_cases e:j=k
    ·subst e
     intro y' c' q' hy' hc' hq'
     rw[hy] at hy';rw[hc] at hc';rw[hq] at hq'
     cases hy';cases hc';cases hq'
     exact H1
    ·exact H2 j (by omega) h2
  by_cases h0:y<0
  ·exact⟨fun H=>by have:=(split.1 H).1.1;omega,fun _=>qtv hy i1 lt (by simpa using h0)⟩
  ·have n0:decide (y<0)=false:=by simpa using h0
   by_cases h1:y>1000000
   ·exact⟨fun H=>by have:=(split.1 H).1.2.1;omega,fun _=>qvd hy i1 lt n0 (by simpa using h1)⟩
   ·have n1:decide (y>1000000)=false:=decide_eq_false h1
    cases c with
    | true=>
     cases q with
     | true=>exact⟨fun H=>((split.1 H).1.2.2.1 rfl).elim,fun _=>qji hy i1 lt n0 n1 hc i2 hq⟩
     | false=>
      by_cases h2:y<1
      ·exact⟨fun H=>by have:=(split.1 H).1.2.2.2 rfl;omega,fun _=>qua hy i1 lt n0 n1 hc i2 hq (by simpa using h2)⟩
      ·have n2:decide (y<1)=false:=by simpa using h2
       exact⟨fun H=>qfP hy i1 lt n0 n1 hc i2 hq n2 (qaE (by omega)) (i3 (split.1 H).2),fun H=>qfP hy i1 lt n0 n1 hc i2 hq n2 (qaE (by omega)) (i4 fun H2=>H (split.2 ⟨⟨by omega,by omega,by decide,fun _=>by omega⟩,H2⟩))⟩
    | false=>
     cases q with
     | true=>exact⟨fun H=>qfW hy i1 lt n0 n1 hc i2 hq (qaE (by omega)) (i3 (split.1 H).2),fun H=>qfW hy i1 lt n0 n1 hc i2 hq (qaE (by omega)) (i4 fun H2=>H (split.2 ⟨⟨by omega,by omega,by decide,fun h=>(by cases h)⟩,H2⟩))⟩
     | false=>exact⟨fun H=>((split.1 H).1.2.2.1 rfl).elim,fun _=>qh5 hy i1 lt n0 n1 hc i2 hq⟩
theorem qcY (h:Vd u b fr):Fn 129 3 [slA u b fr] (slP u b fr) (.pv (iV 0)) 0 []:=by
 have hp:=h.pos
 have hle:=h.le
 obtain⟨g,hg⟩:=qpu h.rng h.nod
 obtain⟨_,_,m3⟩:=qm3 hg
 have hgl:g.length=u.length:=by rw[qkn hg];simp
 obtain⟨l0,_⟩:=qfg (u:=u) (b:=b) (fr:=fr) (by have:=h.frlen;omega) fr.length 0 (List.replicate u.length false) (by omega) (by simp)
 have hfl:fr.length≤u.length:=by
  have hs:qey b fr=true:=by
   have:=qcn.2 h
   unfold qcE at this
   simp only[Bool.and_eq_true] at this
   exact this.2
  unfold qey at hs
  split at hs
  ·rename_i g2 hg2
   have:=qb8 hg2
   have:=List.count_le_length (a:=true) (l:=b.map not)
   rw[List.length_map,h.len] at this
   omega
  ·cases hs
 obtain⟨l1,_⟩:=qfb (fr:=fr) (by omega) h.len hgl u.length 0 (by omega)
 refine quY (by simp;omega) (by simp;omega) (by simp[h.len]) (by simp;omega) (by omega) (by omega) (l0 g (by rw[List.drop_zero];exact hg)) (l1 fun j _ hj y c q hy hc hq=>?_)
 have h1:=h.use j y c hy hc
 have h2:=h.part j c hc
 have h3:=m3 j hj
 rw[hq] at h3
 cases c with
 | true=>
  simp at h1 h2 h3
  refine⟨by omega,h1.2,fun e=>?_,fun _=>h1.1⟩
  subst e
  exact h2 (h3.1 rfl)
 | false=>
  simp at h1 h2 h3
  refine⟨h1.1,h1.2,fun e=>?_,fun e=>by cases e⟩
  subst e
  have:=h3.2 h2
  cases this
theorem qiy (hf:fr.length≤1000000) (h:¬ Vd u b fr):Fn 129 3 [slA u b fr] (slP u b fr) (.pv (iV 8)) 0 []:=by
 by_cases h1:u.length<1
 ·exact qDJ (by simp;omega)
 have n1:decide ((u.length:Int)<1)=false:=by simp;omega
 by_cases h2:200<u.length
 ·exact qDj n1 (by simp;omega)
 have n2:decide ((u.length:Int)>200)=false:=by simp;omega
 by_cases h3:b.length=u.length
 ·have n3:(!((b.length:Int)==(u.length:Int)))=false:=by simp[h3]
  by_cases h4:u.length<fr.length
  ·exact qEc n1 n2 n3 (by simp;omega)
  have n4:decide ((fr.length:Int)>(u.length:Int))=false:=by simp;omega
  obtain⟨l0,l0'⟩:=qfg (u:=u) (b:=b) (fr:=fr) hf fr.length 0 (List.replicate u.length false) (by omega) (by simp)
  rw[List.drop_zero] at l0 l0'
  cases hm:mark (List.replicate u.length false) fr with
  | none=>exact qCe n1 n2 n3 n4 (by omega) (by omega) (l0' hm)
  | some g=>
   have hgl:g.length=u.length:=by rw[qkn hm];simp
   obtain⟨m1,m2,m3⟩:=qm3 hm
   obtain⟨_,l1⟩:=qfb (fr:=fr) (by omega) h3 hgl u.length 0 (by omega)
   refine qDY n1 n2 n3 n4 (by omega) (by omega) (l0 g hm) (l1 fun H=>h ⟨by omega,by omega,h3,fun k y c hy hc=>?_,m1,m2,fun k c hc=>?_⟩)
   ·have hk:k<u.length:=(List.getElem?_eq_some_iff.1 hy).1
    obtain⟨q,hq⟩:∃ q,g[k]?=some q:=⟨_,List.getElem?_eq_getElem (by omega)⟩
    obtain⟨a1,a2,a3,a4⟩:=H k (Nat.zero_le _) hk y c q hy hc hq
    cases c with
    | true=>exact⟨by have:=a4 rfl;simpa using this,a2⟩
    | false=>exact⟨by simpa using a1,a2⟩
   ·have hk:k<u.length:=by have:=(List.getElem?_eq_some_iff.1 hc).1;omega
    obtain⟨q,hq⟩:∃ q,g[k]?=some q:=⟨_,List.getElem?_eq_getElem (by omega)⟩
    obtain⟨y,hy⟩:∃ y,u[k]?=some y:=⟨_,List.getElem?_eq_getElem hk⟩
    obtain⟨a1,a2,a3,a4⟩:=H k (Nat.zero_le _) hk y c q hy hc hq
    rw[← m3 k hk,hq]
    cases c<;>cases q<;>simp at a3 ⊢
 ·exact qCg n1 n2 (by simp;omega)
def qde (u:List Int) (b:List Bool) (fr:List Int):Bool:=decide (u.length>210)||decide (b.length>210)||decide (fr.length>210)
theorem qm4 (h:qde u b fr=true):Fn 121 3 [slA u b fr] (slP u b fr) (.pv (.bool true)) 0 []:=by
 unfold qde at h
 by_cases h1:u.length>210
 ·exact qFD (by simp;omega)
 ·have n1:decide ((u.length:Int)>210)=false:=by simp;omega
  by_cases h2:b.length>210
  ·exact qFU n1 (by simp;omega)
  ·have n2:decide ((b.length:Int)>210)=false:=by simp;omega
   have h3:fr.length>210:=by simp at h;omega
   exact qFB n1 n2 (by simp;omega)
theorem qgq (h:qde u b fr=false):Fn 121 3 [slA u b fr] (slP u b fr) (.pv (.bool false)) 0 []:=by
 unfold qde at h
 simp at h
 exact qCm (by simp;omega) (by simp;omega) (by simp;omega)
theorem qlR (h:qde u b fr=false):u.length≤210∧b.length≤210∧fr.length≤210:=by
 unfold qde at h
 simp at h
 omega
theorem Vd.small (h:Vd u b fr):qde u b fr=false:=by
 have h1:=h.le
 have h2:=h.len
 have h3:=h.frlen
 unfold qde
 simp
 omega
theorem qg8 {hi hw:Int} (h:Vd u b fr) (hl:Live u b hi hw):Fn 132 3 [slA u b fr,.pv (.agg #[iV hi,iV hw])] (slP u b fr) (.pv (.bool true)) 0 []:=
 qqx (by simpa using hl.lo) (by simpa using hl.lt) ⟨hl.lo,by rw[h.len];exact hl.lt⟩ hl.used ⟨hl.lo,hl.lt⟩ hl.use (by simp)
theorem qjJ {hi hw:Int} (h:Vd u b fr) (hl:¬ Live u b hi hw):Fn 132 3 [slA u b fr,.pv (.agg #[iV hi,iV hw])] (slP u b fr) (.pv (.bool false)) 0 []:=by
 by_cases h0:hi≥0
 ·have n0:decide (hi≥0)=true:=by simpa using h0
  by_cases h1:hi<(u.length:Int)
  ·have n1:decide (hi<(u.length:Int))=true:=by simpa using h1
   have hlb:hi<(b.length:Int):=by rw[h.len];exact h1
   obtain⟨c,hc⟩:∃ c,b[hi.toNat]?=some c:=⟨_,List.getElem?_eq_getElem (by omega)⟩
   obtain⟨y,hy⟩:∃ y,u[hi.toNat]?=some y:=⟨_,List.getElem?_eq_getElem (by omega)⟩
   cases c with
   | false=>exact qoY n0 n1 ⟨h0,hlb⟩ hc
   | true=>
    have hne:y≠hw:=fun e=>hl ⟨h0,h1,hc,by rw[hy,e]⟩
    exact qni n0 n1 ⟨h0,hlb⟩ hc ⟨h0,h1⟩ hy (by simpa using hne)
  ·exact qvv n0 (by simpa using h1)
 ·exact qu3 (by simpa using h0)
end
end Go.Proofs.YtkjaanhddkkodaaGreat

namespace Go.Proofs.YtkjaanhddkkodaaGreat
set_option maxRecDepth 100000
open Go.RowKit
structure Ev where
 n:Int
 d:Int
 k:Int
 i:Int
 w:Int
deriving DecidableEq
abbrev qab (x:Ev):Value:=.agg #[iV x.n,iV x.d,iV x.k,iV x.i,iV x.w]
abbrev qaJ (i w:Int):Value:=.agg #[iV i,iV w]
abbrev ecV (x:Ev):List Value:=[iV x.n,iV x.d,iV x.k,iV x.i,iV x.w]
def qaK:List Ev→List Value
 | []=>[]
 | m::r=>iV m.n::iV m.d::iV m.k::iV m.i::iV m.w::qaK r
abbrev qas (l:List Ev):SV:=.row 62 5 l.length (qaK l)
theorem qdn:∀ (a b:List Ev),qaK (a++b)=qaK a++qaK b
 | [],_=>rfl
 | p::r,b=>by simp[qaK,qdn r b]
theorem qa7:∀ (l:List Ev),(qaK l).length=l.length*5
 | []=>rfl
 | p::r=>by simp[qaK,qa7 r];omega
theorem qc7:∀ {l:List Ev} {k:Nat} {m:Ev},l[k]?=some m→(qaK l)[k*5]?=some (iV m.n)∧(qaK l)[k*5+1]?=some (iV m.d)∧(qaK l)[k*5+2]?=some (iV m.k)∧(qaK l)[k*5+3]?=some (iV m.i)∧(qaK l)[k*5+4]?=some (iV m.w)
 | [],k,p,h=>by simp at h
 | q::r,0,p,h=>by simp at h;subst h;exact⟨rfl,rfl,rfl,rfl,rfl⟩
 | q::r,k+1,p,h=>by
  have:=qc7 (l:=r) (k:=k) (m:=p) (by simpa using h)
  rw[show (k+1)*5=k*5+1+1+1+1+1 by omega]
  exact this
theorem qbe {l:List Ev} {k:Nat} {m:Ev} (h:l[k]?=some m):qcQ (qaK l) (0*5+k*5) (ecV m):=by
 obtain⟨h1,h2,h3,h4,h5⟩:=qc7 h
 intro j v hj
 rw[show 0*5+k*5+j=k*5+j by omega]
 match j,hj with
 | 0,hj=>cases hj;exact h1
 | 1,hj=>cases hj;exact h2
 | 2,hj=>cases hj;exact h3
 | 3,hj=>cases hj;exact h4
 | 4,hj=>cases hj;exact h5
 | j+5,hj=>simp at hj
theorem qFn {l:List Ev} {k:Nat} {m:Ev} (h:l[k]?=some m):qcQ (qaK l) (0*5+k*5+2) [iV m.k]:=by
 obtain⟨h1,h2,h3,h4,h5⟩:=qc7 h
 intro j v hj
 match j,hj with
 | 0,hj=>cases hj;rw[show 0*5+k*5+2+0=k*5+2 by omega];exact h3
 | j+1,hj=>simp at hj
theorem qwV {l:List Ev} {k:Nat} {m:Ev} (h:l[k]?=some m):qcQ (qaK l) (0*5+k*5+3) [iV m.i,iV m.w]:=by
 obtain⟨h1,h2,h3,h4,h5⟩:=qc7 h
 intro j v hj
 match j,hj with
 | 0,hj=>cases hj;rw[show 0*5+k*5+3+0=k*5+3 by omega];exact h4
 | 1,hj=>cases hj;rw[show 0*5+k*5+3+1=k*5+4 by omega];exact h5
 | j+2,hj=>simp at hj
theorem qEv {l:List Ev} {k:Nat} {m:Ev} (h:l[k]?=some m):qcQ (qaK l) (0*5+k*5+3+0) [iV m.i]:=by
 obtain⟨h1,h2,h3,h4,h5⟩:=qc7 h
 intro j v hj
 match j,hj with
 | 0,hj=>cases hj;rw[show 0*5+k*5+3+0+0=k*5+3 by omega];exact h4
 | j+1,hj=>simp at hj
theorem qcV (a:Value) (xs us:List Value) (q:Nat):qel (a::xs) (q+1) us=a::qel xs q us:=by
 unfold qel
 rw[show q+1+us.length=(q+us.length)+1 by omega]
 rfl
theorem qhF (a b c d e:Value) (xs us:List Value) (q:Nat):qel (a::b::c::d::e::xs) (q+5) us=a::b::c::d::e::qel xs q us:=by
 rw[show q+5=q+1+1+1+1+1 by omega,qcV,qcV,qcV,qcV,qcV]
theorem qlI:∀ (l:List Ev) (k:Nat) (x:Ev),k<l.length→qaK (l.set k x)=qel (qaK l) (0*5+k*5) (ecV x)
 | [],k,x,h=>by simp at h
 | p::r,0,x,h=>rfl
 | p::r,k+1,x,h=>by
  have:=qlI r k x (by simpa using h)
  rw[show 0*5+(k+1)*5=(0*5+k*5)+5 by omega]
  simp only[qaK,List.set_cons_succ]
  rw[qhF,this]
theorem qE3:∀ (l:List Ev) (k:Nat) (m:Ev) (n d:Int),l[k]?=some m→qaK (l.set k ⟨n,d,m.k,m.i,m.w⟩)=qel (qaK l) (0*5+k*5+0) [iV n,iV d]
 | [],k,m,n,d,h=>by simp at h
 | p::r,0,m,n,d,h=>by simp at h;subst h;rfl
 | p::r,k+1,m,n,d,h=>by
  have:=qE3 r k m n d (by simpa using h)
  have e:0*5+(k+1)*5+0=(0*5+k*5+0)+5:=by omega
  rw[e,List.set_cons_succ]
  show _::_::_::_::_::qaK (r.set k _)=_
  rw[this]
  exact (qhF _ _ _ _ _ _ _ _).symm
theorem qew (l:List Ev) (k:Nat) (h:k<l.length):0*5+k*5+5≤(qaK l).length:=by rw[qa7];omega
theorem qx2 (l:List Ev) (k:Nat) (h:k<l.length):0*5+k*5+0+2≤(qaK l).length:=by rw[qa7];omega
theorem qnC:∀ (l:List Ev),∀ v∈qaK l,v.oneCell'=true
 | [],v,h=>by cases h
 | m::r,v,h=>by
  simp only[qaK,List.mem_cons] at h
  rcases h with rfl | rfl | rfl | rfl | rfl | h
  ·rfl
  ·rfl
  ·rfl
  ·rfl
  ·rfl
  ·exact qnC r v h
theorem qhY:∀ (l:List Ev) (k:Nat),(qaK l).take (k*5)=qaK (l.take k)
 | [],k=>by simp[qaK]
 | p::r,0=>by simp[qaK]
 | p::r,k+1=>by rw[show (k+1)*5=k*5+1+1+1+1+1 by omega];simp[qaK,qhY r k]
abbrev agA (u:List Int) (b:List Bool) (fr:List Int) (ev:List Ev) (wh:List Int):SV:=.ag [.ls 0 u.length,.ls 1 b.length,.ls 2 fr.length,.ls 3 ev.length,.ls 4 wh.length]
abbrev agP (u:List Int) (b:List Bool) (fr:List Int) (ev:List Ev) (wh:List Int):List (Nat×Nat×SV):=[(0,0,zrI u),(1,0,zrB b),(2,0,zrI fr),(3,0,qas ev),(4,0,zrI wh)]
def ltE (x y:Ev):Bool:=decide (x.n*y.d<y.n*x.d)||(decide (x.n*y.d=y.n*x.d)&&decide (x.k<y.k))
def EvI (x:Ev):Prop:=I64 x.n∧I64 x.d
structure EvOk (x:Ev):Prop where
 i:EvI x
 ok:okB x.n x.d=true
 k0:0≤x.k
 k1:x.k≤1000000
theorem EvOk.pos {x:Ev} (h:EvOk x):0<x.d:=by have:=(qdi.1 h.ok).1;omega
theorem qe5 (x:Ev):ltE x x=false:=by simp[ltE]
theorem qgD {a b d:Int} (hd:0<d) (h:a*d≤b*d):a≤b:=Int.le_of_mul_le_mul_right h hd
theorem qdl {x y z:Ev} (hx:EvOk x) (hy:EvOk y) (hz:EvOk z) (h:ltE x y=false) (k:ltE y z=false):ltE x z=false:=by
 have px:=hx.pos
 have py:=hy.pos
 have pz:=hz.pos
 simp only[ltE,Bool.or_eq_false_iff,Bool.and_eq_false_iff,decide_eq_false_iff_not] at h k ⊢
 obtain⟨h1,h2⟩:=h
 obtain⟨k1,k2⟩:=k
 have a1:y.n*x.d≤x.n*y.d:=by omega
 have a2:z.n*y.d≤y.n*z.d:=by omega
 have b1:z.n*y.d*x.d≤y.n*z.d*x.d:=Int.mul_le_mul_of_nonneg_right a2 (Int.le_of_lt px)
 have b2:y.n*x.d*z.d≤x.n*y.d*z.d:=Int.mul_le_mul_of_nonneg_right a1 (Int.le_of_lt pz)
 have e1:y.n*z.d*x.d=y.n*x.d*z.d:=by rw[Int.mul_assoc,Int.mul_comm z.d,← Int.mul_assoc]
 have e2:z.n*y.d*x.d=z.n*x.d*y.d:=by rw[Int.mul_assoc,Int.mul_comm y.d,← Int.mul_assoc]
 have e3:x.n*y.d*z.d=x.n*z.d*y.d:=by rw[Int.mul_assoc,Int.mul_comm y.d,← Int.mul_assoc]
 have c1:z.n*x.d≤x.n*z.d:=qgD py (by rw[← e2,← e3];exact Int.le_trans b1 (by rw[e1];exact b2))
 refine⟨by omega,?_⟩
 by_cases e:x.n*z.d=z.n*x.d
 ·right
  have e4:x.n*z.d*y.d=z.n*x.d*y.d:=by rw[e]
  have e5:x.n*y.d*z.d=z.n*y.d*x.d:=by rw[e3,e4,e2]
  have f1:z.n*y.d*x.d=y.n*z.d*x.d:=Int.le_antisymm b1 (by rw[e1,← e5];exact b2)
  have f2:y.n*x.d*z.d=x.n*y.d*z.d:=by rw[← e1,← f1,e5]
  have g1:y.n*z.d=z.n*y.d:=(Int.mul_eq_mul_right_iff (by omega)).1 f1.symm
  have g2:x.n*y.d=y.n*x.d:=(Int.mul_eq_mul_right_iff (by omega)).1 f2.symm
  rcases h2 with h2 | h2
  ·exact (h2 g2).elim
  ·rcases k2 with k2 | k2
   ·exact (k2 g1).elim
   ·omega
 ·exact Or.inl e
theorem qeI {x y:Ev} (h:ltE x y=true):ltE y x=false:=by
 simp only[ltE,Bool.or_eq_true,Bool.and_eq_true,decide_eq_true_eq,Bool.or_eq_false_iff,Bool.and_eq_false_iff,decide_eq_false_iff_not] at h ⊢
 rcases h with h | h
 ·exact⟨by omega,Or.inl (by omega)⟩
 ·exact⟨by omega,Or.inr (by omega)⟩
end Go.Proofs.YtkjaanhddkkodaaGreat
