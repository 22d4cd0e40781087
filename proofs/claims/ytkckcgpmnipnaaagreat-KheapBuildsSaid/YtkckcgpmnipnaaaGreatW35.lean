/-
  Joined: Zg, Ya. Conditions: none.
-/
import Derived.Test.YtkckcgpmnipnaaaGreatW34
import Derived.Test.YtkckcgpmnipnaaaGreatW21
import Derived.Test.YtkckcgpmnipnaaaGreatW22
import Derived.Test.YtkckcgpmnipnaaaGreatW26
namespace Go.Proofs.YtkckcgpmnipnaaaGreat
set_option maxRecDepth 100000
open Go.RowKit
def mark:List Bool→List Int→Option (List Bool)
 | g,[]=>some g
 | g,x::r=>if 0≤x∧x<(g.length:Int)∧g[x.toNat]?=some false then mark (g.set x.toNat true) r else none
theorem qcz:∀ (f:List Int) (g:List Bool),mark g f=(qbr (g.map not) f).map (List.map not)
 | [],g=>by simp[mark,qbr,List.map_map,Function.comp_def]
 | x::r,g=>by
  unfold mark qbr
  have e1:(g.map not).length=g.length:=by simp
  have e2:((g.map not)[x.toNat]?=some true)↔(g[x.toNat]?=some false):=by
   rw[List.getElem?_map]
   cases g[x.toNat]? with
   | none=>simp
   | some c=>cases c<;>simp
  have e3:(g.set x.toNat true).map not=(g.map not).set x.toNat false:=by rw[List.map_set];rfl
  rw[e1]
  by_cases h:0≤x∧x<(g.length:Int)∧g[x.toNat]?=some false
  ·rw[if_pos h,if_pos ⟨h.1,h.2.1,e2.2 h.2.2⟩,qcz r,e3]
  ·rw[if_neg h,if_neg (fun h'=>h ⟨h'.1,h'.2.1,e2.1 h'.2.2⟩)];rfl
theorem qjS {f:List Int} {g g':List Bool} (h:mark g f=some g'):g'.length=g.length:=by
 rw[qcz] at h
 cases hs:qbr (g.map not) f with
 | none=>rw[hs] at h;cases h
 | some k=>rw[hs] at h;cases h;rw[List.length_map,qep hs,List.length_map]
theorem qnt {n:Nat} {f:List Int} {g:List Bool} (h:mark (List.replicate n false) f=some g):(∀ x∈f,0≤x∧x<(n:Int))∧f.Nodup∧∀ k,k<n→(g[k]?=some true↔(k:Int)∈f):=by
 rw[qcz] at h
 cases hs:qbr ((List.replicate n false).map not) f with
 | none=>rw[hs] at h;cases h
 | some t=>
  rw[hs] at h
  cases h
  obtain⟨h1,h2,h3⟩:=qdM hs
  refine⟨fun x hx=>?_,h2,fun k hk=>?_⟩
  ·obtain⟨a1,a2,_⟩:=h1 x hx
   exact⟨a1,by simpa using a2⟩
  ·rw[List.getElem?_map,h3]
   by_cases hm:(k:Int)∈f
   ·rw[if_pos hm];simp[hm]
   ·rw[if_neg hm]
    simp[hm,hk]
theorem qrz {n:Nat} {f:List Int} (h1:∀ x∈f,0≤x∧x<(n:Int)) (h2:f.Nodup):∃ g,mark (List.replicate n false) f=some g:=by
 obtain⟨g,hg⟩:=qek (f:=f) (g:=(List.replicate n false).map not) (fun x hx=>by
  obtain⟨a1,a2⟩:=h1 x hx
  refine⟨a1,by simpa using a2,?_⟩
  rw[List.getElem?_map,List.getElem?_replicate,if_pos (by omega)];rfl) h2
 exact⟨g.map not,by rw[qcz,hg];rfl⟩
def qDY (u:List Int) (b g:List Bool) (k:Nat):Prop:=∀ (y:Int) (c d:Bool),u[k]?=some y→b[k]?=some c→g[k]?=some d→0≤y∧y≤1000000∧c≠d∧(c=true→1≤y)
section
variable {u fr:List Int} {b:List Bool}
abbrev qBN (u:List Int) (b:List Bool) (fr:List Int) (g:List Bool):List (Nat×Nat×SV):=[(3,0,.ls 0 u.length),(3,1,.ls 1 b.length),(3,2,.ls 2 fr.length),(0,0,zrI u),(1,0,zrB b),(2,0,zrI fr),(4,0,.row 4 1 u.length (zbV g))]
theorem qfG (hf:fr.length≤1000000):∀ (d k:Nat) (g:List Bool),k+d=fr.length→g.length=u.length→
 (∀ g',mark g (fr.drop k)=some g'→Rl 3 3 185 0 117 5 [(1,.pp 3 0),(3,.pv (iV (u.length:Int))),(4,.ls 4 u.length),(5,.pv (iV (k:Int)))] (qBN u b fr g) (.exit 0) [(1,.pp 3 0),(3,.pv (iV (u.length:Int))),(4,.ls 4 u.length)] (qBN u b fr g'))∧
 (mark g (fr.drop k)=none→Rl 3 3 185 0 117 5 [(1,.pp 3 0),(3,.pv (iV (u.length:Int))),(4,.ls 4 u.length),(5,.pv (iV (k:Int)))] (qBN u b fr g) .ret [(2,.pv (iV 8))] [])
 | 0,k,g,h,hg=>by
  have e:fr.drop k=[]:=List.drop_eq_nil_iff.2 (by omega)
  rw[e]
  refine⟨fun g' h'=>?_,fun h'=>(by cases h')⟩
  cases h'
  exact qwT (by simp;omega)
 | d+1,k,g,h,hg=>by
  have hk:k<fr.length:=by omega
  obtain⟨x,hx⟩:∃ x,fr[k]?=some x:=⟨_,List.getElem?_eq_getElem hk⟩
  have e:fr.drop k=x::fr.drop (k+1):=by
   rw[List.drop_eq_getElem_cons hk]
   rw[List.getElem?_eq_getElem hk] at hx
   cases hx;rfl
  have i1:0≤(k:Int)∧(k:Int)<(fr.length:Int):=by omega
  have lt:decide ((k:Int)<(fr.length:Int))=true:=by simp;omega
  rw[e]
  unfold mark
  by_cases h0:x<0
  ·rw[if_neg (by omega)]
   exact⟨fun g' h'=>(by cases h'),fun _=>qvc hx i1 lt (by simpa using h0)⟩
  ·have n0:decide (x<0)=false:=by simpa using h0
   by_cases h1:x≥(u.length:Int)
   ·rw[if_neg (by omega)]
    exact⟨fun g' h'=>(by cases h'),fun _=>qu9 hx i1 lt n0 (by simpa using h1)⟩
   ·have n1:decide (x≥(u.length:Int))=false:=decide_eq_false h1
    have hxl:x.toNat<g.length:=by omega
    have hix:0≤x∧x<(u.length:Int):=by omega
    obtain⟨c,hc⟩:∃ c,g[x.toNat]?=some c:=⟨_,List.getElem?_eq_getElem hxl⟩
    cases c with
    | true=>
     rw[if_neg (fun h'=>by rw[hc] at h';cases h'.2.2)]
     exact⟨fun g' h'=>(by cases h'),fun _=>qm0 hx i1 lt n0 n1 hix hc⟩
    | false=>
     rw[if_pos ⟨hix.1,by omega,hc⟩]
     obtain⟨i3,i4⟩:=qfG hf d (k+1) (g.set x.toNat true) (by omega) (by rw[List.length_set];exact hg)
     exact⟨fun g' h'=>qkE hx i1 lt n0 n1 hix hc hxl (qaB (by omega)) (i3 g' h'),fun h'=>qkE hx i1 lt n0 n1 hix hc hxl (qaB (by omega)) (i4 h')⟩
theorem qfe {g:List Bool} (hn:u.length≤1000000) (hb:b.length=u.length) (hg:g.length=u.length):∀ (d k:Nat),k+d=u.length→
 ((∀ j,k≤j→j<u.length→qDY u b g j)→Rl 3 3 185 1 117 5 [(1,.pp 3 0),(3,.pv (iV (u.length:Int))),(4,.ls 4 u.length),(6,.pv (iV (k:Int)))] (qBN u b fr g) (.exit 2) [] [])∧
 (¬ (∀ j,k≤j→j<u.length→qDY u b g j)→Rl 3 3 185 1 117 5 [(1,.pp 3 0),(3,.pv (iV (u.length:Int))),(4,.ls 4 u.length),(6,.pv (iV (k:Int)))] (qBN u b fr g) .ret [(2,.pv (iV 8))] [])
 | 0,k,h=>⟨fun _=>qwY (by simp;omega),fun hno=>(hno fun j h1 h2=>by omega).elim⟩
 | d+1,k,h=>by
  have hk:k<u.length:=by omega
  obtain⟨y,hy⟩:∃ y,u[k]?=some y:=⟨_,List.getElem?_eq_getElem hk⟩
  obtain⟨c,hc⟩:∃ c,b[k]?=some c:=⟨_,List.getElem?_eq_getElem (by omega)⟩
  obtain⟨q,hq⟩:∃ q,g[k]?=some q:=⟨_,List.getElem?_eq_getElem (by omega)⟩
  obtain⟨i3,i4⟩:=qfe hn hb hg d (k+1) (by omega)
  have i1:0≤(k:Int)∧(k:Int)<(u.length:Int):=by omega
  have i2:0≤(k:Int)∧(k:Int)<(b.length:Int):=by omega
  have lt:decide ((k:Int)<(u.length:Int))=true:=by simp;omega
  have split:(∀ j,k≤j→j<u.length→qDY u b g j)↔(0≤y∧y≤1000000∧c≠q∧(c=true→1≤y))∧∀ j,k+1≤j→j<u.length→qDY u b g j:=by
   constructor
   ·intro H
    exact⟨H k (Nat.le_refl _) hk y c q hy hc hq,fun j h1 h2=>H j (by omega) h2⟩
   ·rintro⟨H1,H2⟩ j h1 h2
    by_cases e:j=k
    ·subst e
     intro y' c' q' hy' hc' hq'
     rw[hy] at hy';rw[hc] at hc';rw[hq] at hq'
     cases hy';cases hc';cases hq'
     exact H1
    ·exact H2 j (by omega) h2
  by_cases h0:y<0
  ·exact⟨fun H=>by have:=(split.1 H).1.1;omega,fun _=>qwk hy i1 lt (by simpa using h0)⟩
  ·have n0:decide (y<0)=false:=by simpa using h0
   by_cases h1:y>1000000
   ·exact⟨fun H=>by have:=(split.1 H).1.2.1;omega,fun _=>qxo hy i1 lt n0 (by simpa using h1)⟩
   ·have n1:decide (y>1000000)=false:=decide_eq_false h1
    cases c with
    | true=>
     cases q with
     | true=>exact⟨fun H=>((split.1 H).1.2.2.1 rfl).elim,fun _=>qjk hy i1 lt n0 n1 hc i2 hq⟩
     | false=>
      by_cases h2:y<1
      ·exact⟨fun H=>by have:=(split.1 H).1.2.2.2 rfl;omega,fun _=>qw2 hy i1 lt n0 n1 hc i2 hq (by simpa using h2)⟩
      ·have n2:decide (y<1)=false:=by simpa using h2
       exact⟨fun H=>qgf hy i1 lt n0 n1 hc i2 hq n2 (qaB (by omega)) (i3 (split.1 H).2),fun H=>qgf hy i1 lt n0 n1 hc i2 hq n2 (qaB (by omega)) (i4 fun H2=>H (split.2 ⟨⟨by omega,by omega,by decide,fun _=>by omega⟩,H2⟩))⟩
    | false=>
     cases q with
     | true=>exact⟨fun H=>qgo hy i1 lt n0 n1 hc i2 hq (qaB (by omega)) (i3 (split.1 H).2),fun H=>qgo hy i1 lt n0 n1 hc i2 hq (qaB (by omega)) (i4 fun H2=>H (split.2 ⟨⟨by omega,by omega,by decide,fun h=>(by cases h)⟩,H2⟩))⟩
     | false=>exact⟨fun H=>((split.1 H).1.2.2.1 rfl).elim,fun _=>qhx hy i1 lt n0 n1 hc i2 hq⟩
theorem qdj (h:Vd u b fr):Fn 185 3 [slA u b fr] (slP u b fr) (.pv (iV 0)) 0 []:=by
 have hp:=h.pos
 have hle:=h.le
 obtain⟨g,hg⟩:=qrz h.rng h.nod
 obtain⟨_,_,m3⟩:=qnt hg
 have hgl:g.length=u.length:=by rw[qjS hg];simp
 obtain⟨l0,_⟩:=qfG (u:=u) (b:=b) (fr:=fr) (by have:=h.frlen;omega) fr.length 0 (List.replicate u.length false) (by omega) (by simp)
 have hfl:fr.length≤u.length:=by
  have hs:qeL b fr=true:=by
   have:=qcl.2 h
   unfold qcJ at this
   simp only[Bool.and_eq_true] at this
   exact this.2
  unfold qeL at hs
  split at hs
  ·rename_i g2 hg2
   have:=qb4 hg2
   have:=List.count_le_length (a:=true) (l:=b.map not)
   rw[List.length_map,h.len] at this
   omega
  ·cases hs
 obtain⟨l1,_⟩:=qfe (fr:=fr) (by omega) h.len hgl u.length 0 (by omega)
 refine quX (by simp;omega) (by simp;omega) (by simp[h.len]) (by simp;omega) (by omega) (by omega) (l0 g (by rw[List.drop_zero];exact hg)) (l1 fun j _ hj y c q hy hc hq=>?_)
 have h1:=h.use j y c hy hc
 have h2:=h.part j c hc
 have h3:=m3 j hj
 rw[hq] at h3
 cases c with
 | true=>
  simp at h1 h2 h3
  refine⟨by omega,h1.2,fun e=>?_,fun _=>h1.1⟩
  subst e
  exact h2 (h3.1 rfl)
 | false=>
  simp at h1 h2 h3
  refine⟨h1.1,h1.2,fun e=>?_,fun e=>by cases e⟩
  subst e
  have:=h3.2 h2
  cases this
theorem qjK (hf:fr.length≤1000000) (h:¬ Vd u b fr):Fn 185 3 [slA u b fr] (slP u b fr) (.pv (iV 8)) 0 []:=by
 by_cases h1:u.length<1
 ·exact qFz (by simp;omega)
 have n1:decide ((u.length:Int)<1)=false:=by simp;omega
 by_cases h2:200<u.length
 ·exact qG5 n1 (by simp;omega)
 have n2:decide ((u.length:Int)>200)=false:=by simp;omega
 by_cases h3:b.length=u.length
 ·have n3:(!((b.length:Int)==(u.length:Int)))=false:=by simp[h3]
  by_cases h4:u.length<fr.length
  ·exact qEw n1 n2 n3 (by simp;omega)
  have n4:decide ((fr.length:Int)>(u.length:Int))=false:=by simp;omega
  obtain⟨l0,l0'⟩:=qfG (u:=u) (b:=b) (fr:=fr) hf fr.length 0 (List.replicate u.length false) (by omega) (by simp)
  rw[List.drop_zero] at l0 l0'
  cases hm:mark (List.replicate u.length false) fr with
  | none=>exact qGy n1 n2 n3 n4 (by omega) (by omega) (l0' hm)
  | some g=>
   have hgl:g.length=u.length:=by rw[qjS hm];simp
   obtain⟨m1,m2,m3⟩:=qnt hm
   obtain⟨_,l1⟩:=qfe (fr:=fr) (by omega) h3 hgl u.length 0 (by omega)
   refine qFI n1 n2 n3 n4 (by omega) (by omega) (l0 g hm) (l1 fun H=>h ⟨by omega,by omega,h3,fun k y c hy hc=>?_,m1,m2,fun k c hc=>?_⟩)
   ·have hk:k<u.length:=(List.getElem?_eq_some_iff.1 hy).1
    obtain⟨q,hq⟩:∃ q,g[k]?=some q:=⟨_,List.getElem?_eq_getElem (by omega)⟩
    obtain⟨a1,a2,a3,a4⟩:=H k (Nat.zero_le _) hk y c q hy hc hq
    cases c with
    | true=>exact⟨by have:=a4 rfl;simpa using this,a2⟩
    | false=>exact⟨by simpa using a1,a2⟩
   ·have hk:k<u.length:=by have:=(List.getElem?_eq_some_iff.1 hc).1;omega
    obtain⟨q,hq⟩:∃ q,g[k]?=some q:=⟨_,List.getElem?_eq_getElem (by omega)⟩
    obtain⟨y,hy⟩:∃ y,u[k]?=some y:=⟨_,List.getElem?_eq_getElem hk⟩
    obtain⟨a1,a2,a3,a4⟩:=H k (Nat.zero_le _) hk y c q hy hc hq
    rw[← m3 k hk,hq]
    cases c<;>cases q<;>simp at a3 ⊢
 ·exact qFV n1 n2 (by simp;omega)
def qb0 (u:List Int) (b:List Bool) (fr:List Int):Bool:=decide (u.length>210)||decide (b.length>210)||decide (fr.length>210)
theorem qnI (h:qb0 u b fr=true):Fn 135 3 [slA u b fr] (slP u b fr) (.pv (.bool true)) 0 []:=by
 unfold qb0 at h
 by_cases h1:u.length>210
 ·exact qHS (by simp;omega)
 ·have n1:decide ((u.length:Int)>210)=false:=by simp;omega
  by_cases h2:b.length>210
  ·exact qH8 n1 (by simp;omega)
  ·have n2:decide ((b.length:Int)>210)=false:=by simp;omega
   have h3:fr.length>210:=by simp at h;omega
   exact qIe n1 n2 (by simp;omega)
theorem qhc (h:qb0 u b fr=false):Fn 135 3 [slA u b fr] (slP u b fr) (.pv (.bool false)) 0 []:=by
 unfold qb0 at h
 simp at h
 exact qEF (by simp;omega) (by simp;omega) (by simp;omega)
theorem qea (h:qb0 u b fr=false):u.length≤210∧b.length≤210∧fr.length≤210:=by
 unfold qb0 at h
 simp at h
 omega
theorem qfc (h:qb0 u b fr=false):Fn 136 3 [slA u b fr] (slP u b fr) (.ag [.ls 3 u.length,.ls 4 b.length,.ls 5 fr.length]) 3 [(3,0,zrI u),(4,0,zrB b),(5,0,zrI fr)]:=by
 obtain⟨h1,h2,h3⟩:=qea h
 exact rtw (by omega) (by omega) (by omega)
theorem Vd.small (h:Vd u b fr):qb0 u b fr=false:=by
 have h1:=h.le
 have h2:=h.len
 have h3:=h.frlen
 unfold qb0
 simp
 omega
theorem qfb {n k:Nat} (h:k<n):(qbH n).take (k+1)=(qbH n).take k++[(n:Int)-1-(k:Int)]:=by
 rw[List.take_add_one,show (qbH n)[k]?=some ((n:Int)-1-(k:Int)) by simp[qbH,h]];rfl
theorem qmE {n:Nat} (hn:n≤1000000):∀ (d k:Nat),k+d=n→Rl 0 0 201 0 23 5 [(2,.pp 0 0),(3,.pp 3 0),(4,.pv (iV ((n:Int)-1-(k:Int))))]
 [(0,0,.pv (.slice none 0 0)),(0,1,.pv (.slice none 0 0)),(0,2,.pv (.slice none 0 0)),(3,0,.ls 1 n),(3,1,.ls 2 n),(3,2,.ls 4 ((qbH n).take k).length),(1,0,.row 3 1 n (ziV (List.replicate n 0))),(2,0,.row 4 1 n (zbV (List.replicate n false))),(4,0,zrI ((qbH n).take k))] (.exit 0) [(2,.pp 0 0),(3,.pp 3 0)]
 [(0,0,.pv (.slice none 0 0)),(0,1,.pv (.slice none 0 0)),(0,2,.pv (.slice none 0 0)),(3,0,.ls 1 n),(3,1,.ls 2 n),(3,2,.ls 4 (qbH n).length),(1,0,.row 3 1 n (ziV (List.replicate n 0))),(2,0,.row 4 1 n (zbV (List.replicate n false))),(4,0,zrI (qbH n))]
 | 0,k,h=>by
  rw[List.take_of_length_le (by rw[qaN];omega)]
  exact qAR (by simp;omega)
 | d+1,k,h=>by
  have ih:=qmE hn d (k+1) (by omega)
  rw[qfb (by omega)] at ih
  refine qxI (by simp;omega) (by rw[List.length_take,qaN];omega) ?_ ih
  rw[show (n:Int)-1-(k:Int)-1=(n:Int)-1-((k+1:Nat):Int) by omega]
  exact qbl (by omega) (by omega)
theorem ql8 {u' fr':List Int} {b':List Bool} {x z:Int} (h:Vd u b fr) (ht:qbu u b fr=some (u',b',fr',x,z)):Fn 197 3 [slA u b fr] (slP u b fr) (.pv (.bool true)) 0 []:=by
 have hfl:=h.frlen
 obtain⟨y,h1,h2,h3,_⟩:=qba ht
 obtain⟨e,hg,h4⟩:=qbk h1
 have hx:x∈fr:=by rw[e];simp
 obtain⟨r1,r2⟩:=h.rng x hx
 have hbk:x.toNat<b.length:=by rw[h.len];omega
 have hy:=(h.use x.toNat y _ h2 (List.getElem?_eq_getElem hbk)).2
 exact qs7 (m:=fr.length-1) (by simp;omega) (by rw[show ((fr.length:Int)-1)=((fr.length-1:Nat):Int) by omega];exact qbl (by omega) (by omega)) (by omega) hg ⟨r1,r2⟩ h2 (by simp;omega)
theorem qkX (h:Vd u b fr) (ht:qbu u b fr=none):Fn 197 3 [slA u b fr] (slP u b fr) (.pv (.bool false)) 0 []:=by
 have hfl:=h.frlen
 cases hl:fr.getLast? with
 | none=>
  have:fr=[]:=List.getLast?_eq_none_iff.1 hl
  subst this
  exact qqr (by simp)
 | some x=>
  obtain⟨e,hg,h4⟩:=qbk hl
  have hx:x∈fr:=by rw[e];simp
  obtain⟨r1,r2⟩:=h.rng x hx
  have hk:x.toNat<u.length:=by omega
  have hy:u[x.toNat]?=some u[x.toNat]:=List.getElem?_eq_getElem hk
  unfold qbu at ht
  rw[hl] at ht
  simp only[hy] at ht
  split at ht
  ·rename_i hw
   exact qoB (m:=fr.length-1) (by simp;omega) (by rw[show ((fr.length:Int)-1)=((fr.length-1:Nat):Int) by omega];exact qbl (by omega) (by omega)) (by omega) hg ⟨r1,r2⟩ hy (by rw[hw];rfl)
  ·cases ht
theorem qhQ {hi hw:Int} (h:Vd u b fr) (hl:Live u b hi hw):Fn 189 3 [slA u b fr,.pv (.agg #[iV hi,iV hw])] (slP u b fr) (.pv (.bool true)) 0 []:=
 qpT (by simpa using hl.lo) (by simpa using hl.lt) ⟨hl.lo,by rw[h.len];exact hl.lt⟩ hl.used ⟨hl.lo,hl.lt⟩ hl.use (by simp)
theorem qkl {hi hw:Int} (h:Vd u b fr) (hl:¬ Live u b hi hw):Fn 189 3 [slA u b fr,.pv (.agg #[iV hi,iV hw])] (slP u b fr) (.pv (.bool false)) 0 []:=by
 by_cases h0:hi≥0
 ·have n0:decide (hi≥0)=true:=by simpa using h0
  by_cases h1:hi<(u.length:Int)
  ·have n1:decide (hi<(u.length:Int))=true:=by simpa using h1
   have hlb:hi<(b.length:Int):=by rw[h.len];exact h1
   obtain⟨c,hc⟩:∃ c,b[hi.toNat]?=some c:=⟨_,List.getElem?_eq_getElem (by omega)⟩
   obtain⟨y,hy⟩:∃ y,u[hi.toNat]?=some y:=⟨_,List.getElem?_eq_getElem (by omega)⟩
   cases c with
   | false=>exact qq0 n0 n1 ⟨h0,hlb⟩ hc
   | true=>
    have hne:y≠hw:=fun e=>hl ⟨h0,h1,hc,by rw[hy,e]⟩
    exact qnM n0 n1 ⟨h0,hlb⟩ hc ⟨h0,h1⟩ hy (by simpa using hne)
  ·exact qvj n0 (by simpa using h1)
 ·exact qx2 (by simpa using h0)
end
theorem qgZ {l:List Int} (hn:l.length≤1000000):Fn 149 2 [.ls 0 l.length,.ls 1 l.length] [(0,0,zrI l),(1,0,zrI l)] (.pv (.bool true)) 0 []:=by
 refine qvT (by simp) (RunsL.roundsZ (N:=l.length) (fun k=>[(0,.ls 0 l.length),(1,.ls 1 l.length),(5,.pv (iV (k:Int)))]) (fun _=>[(0,0,zrI l),(1,0,zrI l)]) l.length 0 (by omega) (fun k _ hk r=>?_) (qAs (by simp)))
 exact qx1 (List.getElem?_eq_getElem hk) (List.getElem?_eq_getElem hk) (by omega) (by omega) (by simp;omega) (by simp) (qaB (by omega)) r
theorem qqo {l:List Bool} (hn:l.length≤1000000):Fn 200 2 [.ls 0 l.length,.ls 1 l.length] [(0,0,zrB l),(1,0,zrB l)] (.pv (.bool true)) 0 []:=by
 refine qxG (by simp) (RunsL.roundsZ (N:=l.length) (fun k=>[(0,.ls 0 l.length),(1,.ls 1 l.length),(5,.pv (iV (k:Int)))]) (fun _=>[(0,0,zrB l),(1,0,zrB l)]) l.length 0 (by omega) (fun k _ hk r=>?_) (qAe (by simp)))
 obtain⟨c,hc⟩:∃ c,l[k]?=some c:=⟨_,List.getElem?_eq_getElem hk⟩
 cases c with
 | true=>exact qhB hc hc (by omega) (by omega) (by simp;omega) (qaB (by omega)) r
 | false=>exact qho hc hc (by omega) (by omega) (by simp;omega) (qaB (by omega)) r
theorem qsh {u fr:List Int} {b:List Bool} (h:qb0 u b fr=false):Fn 148 6 [slA u b fr,.ag [.ls 3 u.length,.ls 4 b.length,.ls 5 fr.length]] [(0,0,zrI u),(1,0,zrB b),(2,0,zrI fr),(3,0,zrI u),(4,0,zrB b),(5,0,zrI fr)] (.pv (.bool true)) 0 []:=by
 obtain⟨h1,h2,h3⟩:=qea h
 exact qFa (qgZ (by omega)) (qqo (by omega)) (qgZ (by omega))
end Go.Proofs.YtkckcgpmnipnaaaGreat

namespace Go.Proofs.YtkckcgpmnipnaaaGreat
set_option maxRecDepth 100000
open Go.RowKit
structure Ev where
 n:Int
 d:Int
 k:Int
 i:Int
 w:Int
deriving DecidableEq
abbrev qae (x:Ev):Value:=.agg #[iV x.n,iV x.d,iV x.k,iV x.i,iV x.w]
abbrev qbb (i w:Int):Value:=.agg #[iV i,iV w]
abbrev ecV (x:Ev):List Value:=[iV x.n,iV x.d,iV x.k,iV x.i,iV x.w]
def qbf:List Ev→List Value
 | []=>[]
 | m::r=>iV m.n::iV m.d::iV m.k::iV m.i::iV m.w::qbf r
abbrev qar (l:List Ev):SV:=.row 61 5 l.length (qbf l)
theorem qcD:∀ (a b:List Ev),qbf (a++b)=qbf a++qbf b
 | [],_=>rfl
 | p::r,b=>by simp[qbf,qcD r b]
theorem qbT:∀ (l:List Ev),(qbf l).length=l.length*5
 | []=>rfl
 | p::r=>by simp[qbf,qbT r];omega
theorem qdf:∀ {l:List Ev} {k:Nat} {m:Ev},l[k]?=some m→(qbf l)[k*5]?=some (iV m.n)∧(qbf l)[k*5+1]?=some (iV m.d)∧(qbf l)[k*5+2]?=some (iV m.k)∧(qbf l)[k*5+3]?=some (iV m.i)∧(qbf l)[k*5+4]?=some (iV m.w)
 | [],k,p,h=>by simp at h
 | q::r,0,p,h=>by simp at h;subst h;exact⟨rfl,rfl,rfl,rfl,rfl⟩
 | q::r,k+1,p,h=>by
  have:=qdf (l:=r) (k:=k) (m:=p) (by simpa using h)
  rw[show (k+1)*5=k*5+1+1+1+1+1 by omega]
  exact this
theorem qcw {l:List Ev} {k:Nat} {m:Ev} (h:l[k]?=some m):qcO (qbf l) (0*5+k*5) (ecV m):=by
 obtain⟨h1,h2,h3,h4,h5⟩:=qdf h
 intro j v hj
 rw[show 0*5+k*5+j=k*5+j by omega]
 match j,hj with
 | 0,hj=>cases hj;exact h1
 | 1,hj=>cases hj;exact h2
 | 2,hj=>cases hj;exact h3
 | 3,hj=>cases hj;exact h4
 | 4,hj=>cases hj;exact h5
 | j+5,hj=>simp at hj
theorem qG9 {l:List Ev} {k:Nat} {m:Ev} (h:l[k]?=some m):qcO (qbf l) (0*5+k*5+2) [iV m.k]:=by
 obtain⟨h1,h2,h3,h4,h5⟩:=qdf h
 intro j v hj
 match j,hj with
 | 0,hj=>cases hj;rw[show 0*5+k*5+2+0=k*5+2 by omega];exact h3
 | j+1,hj=>simp at hj
theorem qD3 {l:List Ev} {k:Nat} {m:Ev} (h:l[k]?=some m):qcO (qbf l) (0*5+k*5+3) [iV m.i,iV m.w]:=by
 obtain⟨h1,h2,h3,h4,h5⟩:=qdf h
 intro j v hj
 match j,hj with
 | 0,hj=>cases hj;rw[show 0*5+k*5+3+0=k*5+3 by omega];exact h4
 | 1,hj=>cases hj;rw[show 0*5+k*5+3+1=k*5+4 by omega];exact h5
 | j+2,hj=>simp at hj
theorem qDh {l:List Ev} {k:Nat} {m:Ev} (h:l[k]?=some m):qcO (qbf l) (0*5+k*5+3+0) [iV m.i]:=by
 obtain⟨h1,h2,h3,h4,h5⟩:=qdf h
 intro j v hj
 match j,hj with
 | 0,hj=>cases hj;rw[show 0*5+k*5+3+0+0=k*5+3 by omega];exact h4
 | j+1,hj=>simp at hj
theorem qc2 (a:Value) (xs us:List Value) (q:Nat):qeH (a::xs) (q+1) us=a::qeH xs q us:=by
 unfold qeH
 rw[show q+1+us.length=(q+us.length)+1 by omega]
 rfl
theorem qod (a b c d e:Value) (xs us:List Value) (q:Nat):qeH (a::b::c::d::e::xs) (q+5) us=a::b::c::d::e::qeH xs q us:=by
 rw[show q+5=q+1+1+1+1+1 by omega,qc2,qc2,qc2,qc2,qc2]
theorem qzg:∀ (l:List Ev) (k:Nat) (x:Ev),k<l.length→qbf (l.set k x)=qeH (qbf l) (0*5+k*5) (ecV x)
 | [],k,x,h=>by simp at h
 | p::r,0,x,h=>rfl
 | p::r,k+1,x,h=>by
  have:=qzg r k x (by simpa using h)
  rw[show 0*5+(k+1)*5=(0*5+k*5)+5 by omega]
  simp only[qbf,List.set_cons_succ]
  rw[qod,this]
theorem qmT (l:List Ev) (k:Nat) (h:k<l.length):0*5+k*5+5≤(qbf l).length:=by rw[qbT];omega
theorem qpx:∀ (l:List Ev),∀ v∈qbf l,v.oneCell'=true
 | [],v,h=>by cases h
 | m::r,v,h=>by
  simp only[qbf,List.mem_cons] at h
  rcases h with rfl | rfl | rfl | rfl | rfl | h
  ·rfl
  ·rfl
  ·rfl
  ·rfl
  ·rfl
  ·exact qpx r v h
abbrev agA (u:List Int) (b:List Bool) (fr:List Int) (ev:List Ev) (wh:List Int):SV:=.ag [.ls 0 u.length,.ls 1 b.length,.ls 2 fr.length,.ls 3 ev.length,.ls 4 wh.length]
abbrev agP (u:List Int) (b:List Bool) (fr:List Int) (ev:List Ev) (wh:List Int):List (Nat×Nat×SV):=[(0,0,zrI u),(1,0,zrB b),(2,0,zrI fr),(3,0,qar ev),(4,0,zrI wh)]
def ltE (x y:Ev):Bool:=decide (x.n*y.d<y.n*x.d)||(decide (x.n*y.d=y.n*x.d)&&decide (x.k<y.k))
def EvI (x:Ev):Prop:=I64 x.n∧I64 x.d
structure EvOk (x:Ev):Prop where
 i:EvI x
 ok:okB x.n x.d=true
 k0:0≤x.k
 k1:x.k≤1000000
theorem EvOk.pos {x:Ev} (h:EvOk x):0<x.d:=by have:=(qeq.1 h.ok).1;omega
theorem qgP {a b d:Int} (hd:0<d) (h:a*d≤b*d):a≤b:=Int.le_of_mul_le_mul_right h hd
theorem qnk {x y z:Ev} (hx:EvOk x) (hy:EvOk y) (hz:EvOk z) (h:ltE x y=false) (k:ltE y z=false):ltE x z=false:=by
 have px:=hx.pos
 have py:=hy.pos
 have pz:=hz.pos
 simp only[ltE,Bool.or_eq_false_iff,Bool.and_eq_false_iff,decide_eq_false_iff_not] at h k ⊢
 obtain⟨h1,h2⟩:=h
 obtain⟨k1,k2⟩:=k
 have a1:y.n*x.d≤x.n*y.d:=by omega
 have a2:z.n*y.d≤y.n*z.d:=by omega
 have b1:z.n*y.d*x.d≤y.n*z.d*x.d:=Int.mul_le_mul_of_nonneg_right a2 (Int.le_of_lt px)
 have b2:y.n*x.d*z.d≤x.n*y.d*z.d:=Int.mul_le_mul_of_nonneg_right a1 (Int.le_of_lt pz)
 have e1:y.n*z.d*x.d=y.n*x.d*z.d:=by rw[Int.mul_assoc,Int.mul_comm z.d,← Int.mul_assoc]
 have e2:z.n*y.d*x.d=z.n*x.d*y.d:=by rw[Int.mul_assoc,Int.mul_comm y.d,← Int.mul_assoc]
 have e3:x.n*y.d*z.d=x.n*z.d*y.d:=by rw[Int.mul_assoc,Int.mul_comm y.d,← Int.mul_assoc]
 have c1:z.n*x.d≤x.n*z.d:=qgP py (by rw[← e2,← e3];exact Int.le_trans b1 (by rw[e1];exact b2))
 refine⟨by omega,?_⟩
 by_cases e:x.n*z.d=z.n*x.d
 ·right
  have e4:x.n*z.d*y.d=z.n*x.d*y.d:=by rw[e]
  have e5:x.n*y.d*z.d=z.n*y.d*x.d:=by rw[e3,e4,e2]
  have f1:z.n*y.d*x.d=y.n*z.d*x.d:=Int.le_antisymm b1 (by rw[e1,← e5];exact b2)
  have f2:y.n*x.d*z.d=x.n*y.d*z.d:=by rw[← e1,← f1,e5]
  have g1:y.n*z.d=z.n*y.d:=(Int.mul_eq_mul_right_iff (by omega)).1 f1.symm
  have g2:x.n*y.d=y.n*x.d:=(Int.mul_eq_mul_right_iff (by omega)).1 f2.symm
  rcases h2 with h2 | h2
  ·exact (h2 g2).elim
  ·rcases k2 with k2 | k2
   ·exact (k2 g1).elim
   ·omega
 ·exact Or.inl e
theorem qr4 {x y:Ev} (h:ltE x y=true):ltE y x=false:=by
 simp only[ltE,Bool.or_eq_true,Bool.and_eq_true,decide_eq_true_eq,Bool.or_eq_false_iff,Bool.and_eq_false_iff,decide_eq_false_iff_not] at h ⊢
 rcases h with h | h
 ·exact⟨by omega,Or.inl (by omega)⟩
 ·exact⟨by omega,Or.inr (by omega)⟩
end Go.Proofs.YtkckcgpmnipnaaaGreat
