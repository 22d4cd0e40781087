/-
  Joined: Zg, Ya, Yb. Conditions: none.
-/
import Derived.Test.YtkckcgpmnipnaaaGreatW24
import Derived.Test.YtkckcgpmnipnaaaGreatW16
import Derived.Test.YtkckcgpmnipnaaaGreatW17
import Derived.Test.YtkckcgpmnipnaaaGreatW19
namespace Go.Proofs.YtkckcgpmnipnaaaGreat
set_option maxRecDepth 100000
open Go.RowKit
def mark:List Bool→List Int→Option (List Bool)
 | g,[]=>some g
 | g,x::r=>if 0≤x∧x<(g.length:Int)∧g[x.toNat]?=some false then mark (g.set x.toNat true) r else none
theorem qcO:∀ (f:List Int) (g:List Bool),mark g f=(qbz (g.map not) f).map (List.map not)
 | [],g=>by simp[mark,qbz,List.map_map,Function.comp_def]
 | x::r,g=>by
  unfold mark qbz
  have e1:(g.map not).length=g.length:=by simp
  have e2:((g.map not)[x.toNat]?=some true)↔(g[x.toNat]?=some false):=by
   rw[List.getElem?_map]
   cases g[x.toNat]? with
   | none=>simp
   | some c=>cases c<;>simp
  have e3:(g.set x.toNat true).map not=(g.map not).set x.toNat false:=by rw[List.map_set];rfl
  rw[e1];by_cases h:0≤x∧x<(g.length:Int)∧g[x.toNat]?=some false
  ·rw[if_pos h,if_pos ⟨h.1,h.2.1,e2.2 h.2.2⟩,qcO r,e3]
  ·rw[if_neg h,if_neg (fun h'=>h ⟨h'.1,h'.2.1,e2.1 h'.2.2⟩)];rfl
theorem qkx {f:List Int} {g g':List Bool} (h:mark g f=some g'):g'.length=g.length:=by
 rw[qcO] at h
 cases hs:qbz (g.map not) f with
 | none=>rw[hs] at h;cases h
 | some k=>rw[hs] at h;cases h;rw[List.length_map,qek hs,List.length_map]
theorem qpg {n:Nat} {f:List Int} {g:List Bool} (h:mark (List.replicate n false) f=some g):(∀ x∈f,0≤x∧x<(n:Int))∧f.Nodup∧∀ k,k<n→(g[k]?=some true↔(k:Int)∈f):=by
 rw[qcO] at h
 cases hs:qbz ((List.replicate n false).map not) f with
 | none=>rw[hs] at h;cases h
 | some t=>
  rw[hs] at h;cases h;obtain⟨h1,h2,h3⟩:=qdF hs;refine⟨fun x hx=>?_,h2,fun k hk=>?_⟩
  ·obtain⟨a1,a2,_⟩:=h1 x hx;exact⟨a1,by simpa using a2⟩
  ·rw[List.getElem?_map,h3];by_cases hm:(k:Int)∈f
   ·rw[if_pos hm];simp[hm]
   ·rw[if_neg hm];simp[hm,hk]
theorem qtG {n:Nat} {f:List Int} (h1:∀ x∈f,0≤x∧x<(n:Int)) (h2:f.Nodup):∃ g,mark (List.replicate n false) f=some g:=by
 obtain⟨g,hg⟩:=qea (f:=f) (g:=(List.replicate n false).map not) (fun x hx=>by
  obtain⟨a1,a2⟩:=h1 x hx;refine⟨a1,by simpa using a2,?_⟩
  rw[List.getElem?_map,List.getElem?_replicate,if_pos (by omega)];rfl) h2
 exact⟨g.map not,by rw[qcO,hg];rfl⟩
def qEx (u:List Int) (b g:List Bool) (k:Nat):Prop:=∀ (y:Int) (c d:Bool),u[k]?=some y→b[k]?=some c→g[k]?=some d→0≤y∧y≤1000000∧c≠d∧(c=true→1≤y)
section
variable {u fr:List Int} {b:List Bool}
abbrev qAm (u:List Int) (b:List Bool) (fr:List Int) (g:List Bool):List (Nat×Nat×SV):=[(3,0,.ls 0 u.length),(3,1,.ls 1 b.length),(3,2,.ls 2 fr.length),(0,0,zrI u),(1,0,zrB b),(2,0,zrI fr),(4,0,.row 4 1 u.length (zbV g))]
theorem qfH (hf:fr.length≤1000000):∀ (d k:Nat) (g:List Bool),k+d=fr.length→g.length=u.length→
 (∀ g',mark g (fr.drop k)=some g'→Rl 3 3 185 0 117 5 [(1,.pp 3 0),(3,.pv (iV (u.length:Int))),(4,.ls 4 u.length),(5,.pv (iV (k:Int)))] (qAm u b fr g) (.exit 0) [(1,.pp 3 0),(3,.pv (iV (u.length:Int))),(4,.ls 4 u.length)] (qAm u b fr g'))∧
 (mark g (fr.drop k)=none→Rl 3 3 185 0 117 5 [(1,.pp 3 0),(3,.pv (iV (u.length:Int))),(4,.ls 4 u.length),(5,.pv (iV (k:Int)))] (qAm u b fr g) .ret [(2,.pv (iV 8))] [])
 | 0,k,g,h,hg=>by
  have e:fr.drop k=[]:=List.drop_eq_nil_iff.2 (by omega);rw[e];refine⟨fun g' h'=>?_,fun h'=>(by cases h')⟩;cases h';exact qvN (by simp;omega)
 | d+1,k,g,h,hg=>by
  have hk:k<fr.length:=by omega
  obtain⟨x,hx⟩:∃ x,fr[k]?=some x:=⟨_,List.getElem?_eq_getElem hk⟩
  have e:fr.drop k=x::fr.drop (k+1):=by
   rw[List.drop_eq_getElem_cons hk];rw[List.getElem?_eq_getElem hk] at hx;cases hx;rfl
  have i1:0≤(k:Int)∧(k:Int)<(fr.length:Int):=by omega
  have lt:decide ((k:Int)<(fr.length:Int))=true:=by simp;omega
  rw[e];unfold mark;by_cases h0:x<0
  ·rw[if_neg (by omega)];exact⟨fun g' h'=>(by cases h'),fun _=>qwi hx i1 lt (by simpa using h0)⟩
  ·have n0:decide (x<0)=false:=by simpa using h0
   by_cases h1:x≥(u.length:Int)
   ·rw[if_neg (by omega)];exact⟨fun g' h'=>(by cases h'),fun _=>qyk hx i1 lt n0 (by simpa using h1)⟩
   ·have n1:decide (x≥(u.length:Int))=false:=decide_eq_false h1
    have hxl:x.toNat<g.length:=by omega
    have hix:0≤x∧x<(u.length:Int):=by omega
    obtain⟨c,hc⟩:∃ c,g[x.toNat]?=some c:=⟨_,List.getElem?_eq_getElem hxl⟩
    cases c with
    | true=>
     rw[if_neg (fun h'=>by rw[hc] at h';cases h'.2.2)];exact⟨fun g' h'=>(by cases h'),fun _=>qo0 hx i1 lt n0 n1 hix hc⟩
    | false=>
     rw[if_pos ⟨hix.1,by omega,hc⟩];obtain⟨i3,i4⟩:=qfH hf d (k+1) (g.set x.toNat true) (by omega) (by rw[List.length_set];exact hg);exact⟨fun g' h'=>qk1 hx i1 lt n0 n1 hix hc hxl (qaL (by omega)) (i3 g' h'),fun h'=>qk1 hx i1 lt n0 n1 hix hc hxl (qaL (by omega)) (i4 h')⟩
theorem qfp {g:List Bool} (hn:u.length≤1000000) (hb:b.length=u.length) (hg:g.length=u.length):∀ (d k:Nat),k+d=u.length→
 ((∀ j,k≤j→j<u.length→qEx u b g j)→Rl 3 3 185 1 117 5 [(1,.pp 3 0),(3,.pv (iV (u.length:Int))),(4,.ls 4 u.length),(6,.pv (iV (k:Int)))] (qAm u b fr g) (.exit 2) [] [])∧
 (¬ (∀ j,k≤j→j<u.length→qEx u b g j)→Rl 3 3 185 1 117 5 [(1,.pp 3 0),(3,.pv (iV (u.length:Int))),(4,.ls 4 u.length),(6,.pv (iV (k:Int)))] (qAm u b fr g) .ret [(2,.pv (iV 8))] [])
 | 0,k,h=>⟨fun _=>qv7 (by simp;omega),fun hno=>(hno fun j h1 h2=>by omega).elim⟩
 | d+1,k,h=>by
  have hk:k<u.length:=by omega
  obtain⟨y,hy⟩:∃ y,u[k]?=some y:=⟨_,List.getElem?_eq_getElem hk⟩;obtain⟨c,hc⟩:∃ c,b[k]?=some c:=⟨_,List.getElem?_eq_getElem (by omega)⟩;obtain⟨q,hq⟩:∃ q,g[k]?=some q:=⟨_,List.getElem?_eq_getElem (by omega)⟩;obtain⟨i3,i4⟩:=qfp hn hb hg d (k+1) (by omega)
  have i1:0≤(k:Int)∧(k:Int)<(u.length:Int):=by omega
  have i2:0≤(k:Int)∧(k:Int)<(b.length:Int):=by omega
  have lt:decide ((k:Int)<(u.length:Int))=true:=by simp;omega
  have split:(∀ j,k≤j→j<u.length→qEx u b g j)↔(0≤y∧y≤1000000∧c≠q∧(c=true→1≤y))∧∀ j,k+1≤j→j<u.length→qEx u b g j:=by
   constructor
   ·intro H;exact⟨H k (Nat.le_refl _) hk y c q hy hc hq,fun j h1 h2=>H j (by omega) h2⟩
   ·rintro⟨H1,H2⟩ j h1 h2;by_cases e:j=k
    ·subst e;intro y' c' q' hy' hc' hq';rw[hy] at hy';rw[hc] at hc';rw[hq] at hq';cases hy';cases hc';cases hq';exact H1
    ·exact H2 j (by omega) h2
  by_cases h0:y<0
  ·exact⟨fun H=>by have:=(split.1 H).1.1;omega,fun _=>qyz hy i1 lt (by simpa using h0)⟩
  ·have n0:decide (y<0)=false:=by simpa using h0
   by_cases h1:y>1000000
   ·exact⟨fun H=>by have:=(split.1 H).1.2.1;omega,fun _=>qvJ hy i1 lt n0 (by simpa using h1)⟩
   ·have n1:decide (y>1000000)=false:=decide_eq_false h1
    cases c with
    | true=>
     cases q with
     | true=>exact⟨fun H=>((split.1 H).1.2.2.1 rfl).elim,fun _=>qjf hy i1 lt n0 n1 hc i2 hq⟩
     | false=>
      by_cases h2:y<1
      ·exact⟨fun H=>by have:=(split.1 H).1.2.2.2 rfl;omega,fun _=>qv0 hy i1 lt n0 n1 hc i2 hq (by simpa using h2)⟩
      ·have n2:decide (y<1)=false:=by simpa using h2
       exact⟨fun H=>qgS hy i1 lt n0 n1 hc i2 hq n2 (qaL (by omega)) (i3 (split.1 H).2),fun H=>qgS hy i1 lt n0 n1 hc i2 hq n2 (qaL (by omega)) (i4 fun H2=>H (split.2 ⟨⟨by omega,by omega,by decide,fun _=>by omega⟩,H2⟩))⟩
    | false=>
     cases q with
     | true=>exact⟨fun H=>qgO hy i1 lt n0 n1 hc i2 hq (qaL (by omega)) (i3 (split.1 H).2),fun H=>qgO hy i1 lt n0 n1 hc i2 hq (qaL (by omega)) (i4 fun H2=>H (split.2 ⟨⟨by omega,by omega,by decide,fun h=>(by cases h)⟩,H2⟩))⟩
     | false=>exact⟨fun H=>((split.1 H).1.2.2.1 rfl).elim,fun _=>qiW hy i1 lt n0 n1 hc i2 hq⟩
theorem qde (h:Vd u b fr):Fn 185 3 [slA u b fr] (slP u b fr) (.pv (iV 0)) 0 []:=by
 have hp:=h.pos;have hle:=h.le;obtain⟨g,hg⟩:=qtG h.rng h.nod;obtain⟨_,_,m3⟩:=qpg hg
 have hgl:g.length=u.length:=by rw[qkx hg];simp
 obtain⟨l0,_⟩:=qfH (u:=u) (b:=b) (fr:=fr) (by have:=h.frlen;omega) fr.length 0 (List.replicate u.length false) (by omega) (by simp)
 have hfl:fr.length≤u.length:=by
  have hs:qe2 b fr=true:=by
   have:=qcx.2 h;unfold qcQ at this;simp only[Bool.and_eq_true] at this;exact this.2
  unfold qe2 at hs;split at hs
  ·rename_i g2 hg2;have:=qcj hg2;have:=List.count_le_length (a:=true) (l:=b.map not);rw[List.length_map,h.len] at this;omega
  ·cases hs
 obtain⟨l1,_⟩:=qfp (fr:=fr) (by omega) h.len hgl u.length 0 (by omega);refine quP (by simp;omega) (by simp;omega) (by simp[h.len]) (by simp;omega) (by omega) (by omega) (l0 g (by rw[List.drop_zero];exact hg)) (l1 fun j _ hj y c q hy hc hq=>?_);have h1:=h.use j y c hy hc;have h2:=h.part j c hc;have h3:=m3 j hj;rw[hq] at h3
 cases c with
 | true=>
  simp at h1 h2 h3;refine⟨by omega,h1.2,fun e=>?_,fun _=>h1.1⟩;subst e;exact h2 (h3.1 rfl)
 | false=>
  simp at h1 h2 h3;refine⟨h1.1,h1.2,fun e=>?_,fun e=>by cases e⟩;subst e;have:=h3.2 h2;cases this
theorem qjT (hf:fr.length≤1000000) (h:¬ Vd u b fr):Fn 185 3 [slA u b fr] (slP u b fr) (.pv (iV 8)) 0 []:=by
 by_cases h1:u.length<1
 ·exact qHP (by simp;omega)
 have n1:decide ((u.length:Int)<1)=false:=by simp;omega
 by_cases h2:200<u.length
 ·exact qGZ n1 (by simp;omega)
 have n2:decide ((u.length:Int)>200)=false:=by simp;omega
 by_cases h3:b.length=u.length
 ·have n3:(!((b.length:Int)==(u.length:Int)))=false:=by simp[h3]
  by_cases h4:u.length<fr.length
  ·exact qGv n1 n2 n3 (by simp;omega)
  have n4:decide ((fr.length:Int)>(u.length:Int))=false:=by simp;omega
  obtain⟨l0,l0'⟩:=qfH (u:=u) (b:=b) (fr:=fr) hf fr.length 0 (List.replicate u.length false) (by omega) (by simp);rw[List.drop_zero] at l0 l0'
  cases hm:mark (List.replicate u.length false) fr with
  | none=>exact qGc n1 n2 n3 n4 (by omega) (by omega) (l0' hm)
  | some g=>
   have hgl:g.length=u.length:=by rw[qkx hm];simp
   obtain⟨m1,m2,m3⟩:=qpg hm;obtain⟨_,l1⟩:=qfp (fr:=fr) (by omega) h3 hgl u.length 0 (by omega);refine qFs n1 n2 n3 n4 (by omega) (by omega) (l0 g hm) (l1 fun H=>h ⟨by omega,by omega,h3,fun k y c hy hc=>?_,m1,m2,fun k c hc=>?_⟩)
   ·have hk:k<u.length:=(List.getElem?_eq_some_iff.1 hy).1;obtain⟨q,hq⟩:∃ q,g[k]?=some q:=⟨_,List.getElem?_eq_getElem (by omega)⟩;obtain⟨a1,a2,a3,a4⟩:=H k (Nat.zero_le _) hk y c q hy hc hq
    cases c with
    | true=>exact⟨by have:=a4 rfl;simpa using this,a2⟩
    | false=>exact⟨by simpa using a1,a2⟩
   ·have hk:k<u.length:=by have:=(List.getElem?_eq_some_iff.1 hc).1;omega
    obtain⟨q,hq⟩:∃ q,g[k]?=some q:=⟨_,List.getElem?_eq_getElem (by omega)⟩;obtain⟨y,hy⟩:∃ y,u[k]?=some y:=⟨_,List.getElem?_eq_getElem hk⟩;obtain⟨a1,a2,a3,a4⟩:=H k (Nat.zero_le _) hk y c q hy hc hq;rw[← m3 k hk,hq]
    cases c<;>cases q<;>simp at a3 ⊢
 ·exact qFv n1 n2 (by simp;omega)
def qbZ (u:List Int) (b:List Bool) (fr:List Int):Bool:=decide (u.length>210)||decide (b.length>210)||decide (fr.length>210)
theorem qpj (h:qbZ u b fr=true):Fn 135 3 [slA u b fr] (slP u b fr) (.pv (.bool true)) 0 []:=by
 unfold qbZ at h;by_cases h1:u.length>210
 ·exact qJR (by simp;omega)
 ·have n1:decide ((u.length:Int)>210)=false:=by simp;omega
  by_cases h2:b.length>210
  ·exact qJI n1 (by simp;omega)
  ·have n2:decide ((b.length:Int)>210)=false:=by simp;omega
   have h3:fr.length>210:=by simp at h;omega
   exact qJF n1 n2 (by simp;omega)
theorem qhj (h:qbZ u b fr=false):Fn 135 3 [slA u b fr] (slP u b fr) (.pv (.bool false)) 0 []:=by
 unfold qbZ at h;simp at h;exact qFx (by simp;omega) (by simp;omega) (by simp;omega)
theorem qei (h:qbZ u b fr=false):u.length≤210∧b.length≤210∧fr.length≤210:=by
 unfold qbZ at h;simp at h;omega
theorem qdG (h:qbZ u b fr=false):Fn 136 3 [slA u b fr] (slP u b fr) (.ag [.ls 3 u.length,.ls 4 b.length,.ls 5 fr.length]) 3 [(3,0,zrI u),(4,0,zrB b),(5,0,zrI fr)]:=by
 obtain⟨h1,h2,h3⟩:=qei h;exact rtw (by omega) (by omega) (by omega)
theorem Vd.small (h:Vd u b fr):qbZ u b fr=false:=by
 have h1:=h.le;have h2:=h.len;have h3:=h.frlen;unfold qbZ;simp;omega
theorem qgI {u' fr':List Int} {b':List Bool} {x z:Int} (h:Vd u b fr) (ht:qbx u b fr=some (u',b',fr',x,z)):Fn 197 3 [slA u b fr] (slP u b fr) (.pv (.bool true)) 0 []:=by
 have hfl:=h.frlen;obtain⟨y,h1,h2,h3,_⟩:=qbp ht;obtain⟨e,hg,h4⟩:=qbq h1
 have hx:x∈fr:=by rw[e];simp
 obtain⟨r1,r2⟩:=h.rng x hx
 have hbk:x.toNat<b.length:=by rw[h.len];omega
 have hy:=(h.use x.toNat y _ h2 (List.getElem?_eq_getElem hbk)).2;exact qrA (m:=fr.length-1) (by simp;omega) (by rw[show ((fr.length:Int)-1)=((fr.length-1:Nat):Int) by omega];exact qbe (by omega) (by omega)) (by omega) hg ⟨r1,r2⟩ h2 (by simp;omega)
theorem qgL (h:Vd u b fr) (ht:qbx u b fr=none):Fn 197 3 [slA u b fr] (slP u b fr) (.pv (.bool false)) 0 []:=by
 have hfl:=h.frlen
 cases hl:fr.getLast? with
 | none=>
  have:fr=[]:=List.getLast?_eq_none_iff.1 hl;subst this;exact qrO (by simp)
 | some x=>
  obtain⟨e,hg,h4⟩:=qbq hl
  have hx:x∈fr:=by rw[e];simp
  obtain⟨r1,r2⟩:=h.rng x hx
  have hk:x.toNat<u.length:=by omega
  have hy:u[x.toNat]?=some u[x.toNat]:=List.getElem?_eq_getElem hk;unfold qbx at ht;rw[hl] at ht;simp only[hy] at ht;split at ht
  ·rename_i hw;exact qpn (m:=fr.length-1) (by simp;omega) (by rw[show ((fr.length:Int)-1)=((fr.length-1:Nat):Int) by omega];exact qbe (by omega) (by omega)) (by omega) hg ⟨r1,r2⟩ hy (by rw[hw];rfl)
  ·cases ht
theorem qhZ {hi hw:Int} (h:Vd u b fr) (hl:Live u b hi hw):Fn 189 3 [slA u b fr,.pv (.agg #[iV hi,iV hw])] (slP u b fr) (.pv (.bool true)) 0 []:=
 qsh (by simpa using hl.lo) (by simpa using hl.lt) ⟨hl.lo,by rw[h.len];exact hl.lt⟩ hl.used ⟨hl.lo,hl.lt⟩ hl.use (by simp)
theorem qkD {hi hw:Int} (h:Vd u b fr) (hl:¬ Live u b hi hw):Fn 189 3 [slA u b fr,.pv (.agg #[iV hi,iV hw])] (slP u b fr) (.pv (.bool false)) 0 []:=by
 by_cases h0:hi≥0
 ·have n0:decide (hi≥0)=true:=by simpa using h0
  by_cases h1:hi<(u.length:Int)
  ·have n1:decide (hi<(u.length:Int))=true:=by simpa using h1
   have hlb:hi<(b.length:Int):=by rw[h.len];exact h1
   obtain⟨c,hc⟩:∃ c,b[hi.toNat]?=some c:=⟨_,List.getElem?_eq_getElem (by omega)⟩;obtain⟨y,hy⟩:∃ y,u[hi.toNat]?=some y:=⟨_,List.getElem?_eq_getElem (by omega)⟩
   cases c with
   | false=>exact qrN n0 n1 ⟨h0,hlb⟩ hc
   | true=>
    have hne:y≠hw:=fun e=>hl ⟨h0,h1,hc,by rw[hy,e]⟩
    exact qpf n0 n1 ⟨h0,hlb⟩ hc ⟨h0,h1⟩ hy (by simpa using hne)
  ·exact qwY n0 (by simpa using h1)
 ·exact qym (by simpa using h0)
end
theorem qhh {l:List Int} (hn:l.length≤1000000):Fn 149 2 [.ls 0 l.length,.ls 1 l.length] [(0,0,zrI l),(1,0,zrI l)] (.pv (.bool true)) 0 []:=by
 refine qvM (by simp) (RunsL.roundsZ (N:=l.length) (fun k=>[(0,.ls 0 l.length),(1,.ls 1 l.length),(5,.pv (iV (k:Int)))]) (fun _=>[(0,0,zrI l),(1,0,zrI l)]) l.length 0 (by omega) (fun k _ hk r=>?_) (qD0 (by simp)));exact qyP (List.getElem?_eq_getElem hk) (List.getElem?_eq_getElem hk) (by omega) (by omega) (by simp;omega) (by simp) (qaL (by omega)) r
theorem qsb {l:List Bool} (hn:l.length≤1000000):Fn 200 2 [.ls 0 l.length,.ls 1 l.length] [(0,0,zrB l),(1,0,zrB l)] (.pv (.bool true)) 0 []:=by
 refine quQ (by simp) (RunsL.roundsZ (N:=l.length) (fun k=>[(0,.ls 0 l.length),(1,.ls 1 l.length),(5,.pv (iV (k:Int)))]) (fun _=>[(0,0,zrB l),(1,0,zrB l)]) l.length 0 (by omega) (fun k _ hk r=>?_) (qCs (by simp)));obtain⟨c,hc⟩:∃ c,l[k]?=some c:=⟨_,List.getElem?_eq_getElem hk⟩
 cases c with
 | true=>exact qi1 hc hc (by omega) (by omega) (by simp;omega) (qaL (by omega)) r
 | false=>exact qhy hc hc (by omega) (by omega) (by simp;omega) (qaL (by omega)) r
theorem qtt {u fr:List Int} {b:List Bool} (h:qbZ u b fr=false):Fn 148 6 [slA u b fr,.ag [.ls 3 u.length,.ls 4 b.length,.ls 5 fr.length]] [(0,0,zrI u),(1,0,zrB b),(2,0,zrI fr),(3,0,zrI u),(4,0,zrB b),(5,0,zrI fr)] (.pv (.bool true)) 0 []:=by
 obtain⟨h1,h2,h3⟩:=qei h;exact qIu (qhh (by omega)) (qsb (by omega)) (qhh (by omega))
end Go.Proofs.YtkckcgpmnipnaaaGreat

namespace Go.Proofs.YtkckcgpmnipnaaaGreat
set_option maxRecDepth 100000
open Go.RowKit
structure Ev where
 n:Int
 d:Int
 k:Int
 i:Int
 w:Int
deriving DecidableEq
abbrev qaa (x:Ev):Value:=.agg #[iV x.n,iV x.d,iV x.k,iV x.i,iV x.w]
abbrev qaK (i w:Int):Value:=.agg #[iV i,iV w]
abbrev ecV (x:Ev):List Value:=[iV x.n,iV x.d,iV x.k,iV x.i,iV x.w]
def qau:List Ev→List Value
 | []=>[]
 | m::r=>iV m.n::iV m.d::iV m.k::iV m.i::iV m.w::qau r
abbrev qap (l:List Ev):SV:=.row 61 5 l.length (qau l)
theorem qcL:∀ (a b:List Ev),qau (a++b)=qau a++qau b
 | [],_=>rfl
 | p::r,b=>by simp[qau,qcL r b]
theorem qa7:∀ (l:List Ev),(qau l).length=l.length*5
 | []=>rfl
 | p::r=>by simp[qau,qa7 r];omega
theorem qc9:∀ {l:List Ev} {k:Nat} {m:Ev},l[k]?=some m→(qau l)[k*5]?=some (iV m.n)∧(qau l)[k*5+1]?=some (iV m.d)∧(qau l)[k*5+2]?=some (iV m.k)∧(qau l)[k*5+3]?=some (iV m.i)∧(qau l)[k*5+4]?=some (iV m.w)
 | [],k,p,h=>by simp at h
 | q::r,0,p,h=>by simp at h;subst h;exact⟨rfl,rfl,rfl,rfl,rfl⟩
 | q::r,k+1,p,h=>by
  have:=qc9 (l:=r) (k:=k) (m:=p) (by simpa using h);rw[show (k+1)*5=k*5+1+1+1+1+1 by omega];exact this
theorem qaF {l:List Ev} {k:Nat} {m:Ev} (h:l[k]?=some m):qcJ (qau l) (0*5+k*5) (ecV m):=by
 obtain⟨h1,h2,h3,h4,h5⟩:=qc9 h;intro j v hj;rw[show 0*5+k*5+j=k*5+j by omega]
 match j,hj with
 | 0,hj=>cases hj;exact h1
 | 1,hj=>cases hj;exact h2
 | 2,hj=>cases hj;exact h3
 | 3,hj=>cases hj;exact h4
 | 4,hj=>cases hj;exact h5
 | j+5,hj=>simp at hj
theorem qI6 {l:List Ev} {k:Nat} {m:Ev} (h:l[k]?=some m):qcJ (qau l) (0*5+k*5+2) [iV m.k]:=by
 obtain⟨h1,h2,h3,h4,h5⟩:=qc9 h;intro j v hj
 match j,hj with
 | 0,hj=>cases hj;rw[show 0*5+k*5+2+0=k*5+2 by omega];exact h3
 | j+1,hj=>simp at hj
theorem qzy {l:List Ev} {k:Nat} {m:Ev} (h:l[k]?=some m):qcJ (qau l) (0*5+k*5+3) [iV m.i,iV m.w]:=by
 obtain⟨h1,h2,h3,h4,h5⟩:=qc9 h;intro j v hj
 match j,hj with
 | 0,hj=>cases hj;rw[show 0*5+k*5+3+0=k*5+3 by omega];exact h4
 | 1,hj=>cases hj;rw[show 0*5+k*5+3+1=k*5+4 by omega];exact h5
 | j+2,hj=>simp at hj
theorem qfy {l:List Ev} {k:Nat} {m:Ev} (h:l[k]?=some m):qcJ (qau l) (0*5+k*5+3+0) [iV m.i]:=by
 obtain⟨h1,h2,h3,h4,h5⟩:=qc9 h;intro j v hj
 match j,hj with
 | 0,hj=>cases hj;rw[show 0*5+k*5+3+0+0=k*5+3 by omega];exact h4
 | j+1,hj=>simp at hj
theorem qc0 (a:Value) (xs us:List Value) (q:Nat):qf9 (a::xs) (q+1) us=a::qf9 xs q us:=by
 unfold qf9;rw[show q+1+us.length=(q+us.length)+1 by omega];rfl
theorem qiR (a b c d e:Value) (xs us:List Value) (q:Nat):qf9 (a::b::c::d::e::xs) (q+5) us=a::b::c::d::e::qf9 xs q us:=by
 rw[show q+5=q+1+1+1+1+1 by omega,qc0,qc0,qc0,qc0,qc0]
theorem qdk:∀ (l:List Ev) (k:Nat) (x:Ev),k<l.length→qau (l.set k x)=qf9 (qau l) (0*5+k*5) (ecV x)
 | [],k,x,h=>by simp at h
 | p::r,0,x,h=>rfl
 | p::r,k+1,x,h=>by
  have:=qdk r k x (by simpa using h);rw[show 0*5+(k+1)*5=(0*5+k*5)+5 by omega];simp only[qau,List.set_cons_succ];rw[qiR,this]
theorem qF2:∀ (l:List Ev) (k:Nat) (m:Ev) (n d:Int),l[k]?=some m→qau (l.set k ⟨n,d,m.k,m.i,m.w⟩)=qf9 (qau l) (0*5+k*5+0) [iV n,iV d]
 | [],k,m,n,d,h=>by simp at h
 | p::r,0,m,n,d,h=>by simp at h;subst h;rfl
 | p::r,k+1,m,n,d,h=>by
  have:=qF2 r k m n d (by simpa using h)
  have e:0*5+(k+1)*5+0=(0*5+k*5+0)+5:=by omega
  rw[e,List.set_cons_succ]
  show _::_::_::_::_::qau (r.set k _)=_
  rw[this];exact (qiR _ _ _ _ _ _ _ _).symm
theorem qbl (l:List Ev) (k:Nat) (h:k<l.length):0*5+k*5+5≤(qau l).length:=by rw[qa7];omega
theorem quh (l:List Ev) (k:Nat) (h:k<l.length):0*5+k*5+0+2≤(qau l).length:=by rw[qa7];omega
theorem qng:∀ (l:List Ev),∀ v∈qau l,v.oneCell'=true
 | [],v,h=>by cases h
 | m::r,v,h=>by
  simp only[qau,List.mem_cons] at h
  rcases h with rfl | rfl | rfl | rfl | rfl | h
  ·rfl
  ·rfl
  ·rfl
  ·rfl
  ·rfl
  ·exact qng r v h
theorem qfr:∀ (l:List Ev) (k:Nat),(qau l).take (k*5)=qau (l.take k)
 | [],k=>by simp[qau]
 | p::r,0=>by simp[qau]
 | p::r,k+1=>by rw[show (k+1)*5=k*5+1+1+1+1+1 by omega];simp[qau,qfr r k]
abbrev agA (u:List Int) (b:List Bool) (fr:List Int) (ev:List Ev) (wh:List Int):SV:=.ag [.ls 0 u.length,.ls 1 b.length,.ls 2 fr.length,.ls 3 ev.length,.ls 4 wh.length]
abbrev agP (u:List Int) (b:List Bool) (fr:List Int) (ev:List Ev) (wh:List Int):List (Nat×Nat×SV):=[(0,0,zrI u),(1,0,zrB b),(2,0,zrI fr),(3,0,qap ev),(4,0,zrI wh)]
def ltE (x y:Ev):Bool:=decide (x.n*y.d<y.n*x.d)||(decide (x.n*y.d=y.n*x.d)&&decide (x.k<y.k))
def EvI (x:Ev):Prop:=I64 x.n∧I64 x.d
structure EvOk (x:Ev):Prop where
 i:EvI x
 ok:okB x.n x.d=true
 k0:0≤x.k
 k1:x.k≤1000000
theorem EvOk.pos {x:Ev} (h:EvOk x):0<x.d:=by have:=(qej.1 h.ok).1;omega
theorem qfJ (x:Ev):ltE x x=false:=by simp[ltE]
theorem qhM {a b d:Int} (hd:0<d) (h:a*d≤b*d):a≤b:=Int.le_of_mul_le_mul_right h hd
theorem qbS {x y z:Ev} (hx:EvOk x) (hy:EvOk y) (hz:EvOk z) (h:ltE x y=false) (k:ltE y z=false):ltE x z=false:=by
 have px:=hx.pos;have py:=hy.pos;have pz:=hz.pos;simp only[ltE,Bool.or_eq_false_iff,Bool.and_eq_false_iff,decide_eq_false_iff_not] at h k ⊢;obtain⟨h1,h2⟩:=h;obtain⟨k1,k2⟩:=k
 have a1:y.n*x.d≤x.n*y.d:=by omega
 have a2:z.n*y.d≤y.n*z.d:=by omega
 have b1:z.n*y.d*x.d≤y.n*z.d*x.d:=Int.mul_le_mul_of_nonneg_right a2 (Int.le_of_lt px);have b2:y.n*x.d*z.d≤x.n*y.d*z.d:=Int.mul_le_mul_of_nonneg_right a1 (Int.le_of_lt pz)
 have e1:y.n*z.d*x.d=y.n*x.d*z.d:=by rw[Int.mul_assoc,Int.mul_comm z.d,← Int.mul_assoc]
 have e2:z.n*y.d*x.d=z.n*x.d*y.d:=by rw[Int.mul_assoc,Int.mul_comm y.d,← Int.mul_assoc]
 have e3:x.n*y.d*z.d=x.n*z.d*y.d:=by rw[Int.mul_assoc,Int.mul_comm y.d,← Int.mul_assoc]
 have c1:z.n*x.d≤x.n*z.d:=qhM py (by rw[← e2,← e3];exact Int.le_trans b1 (by rw[e1];exact b2));refine⟨by omega,?_⟩;by_cases e:x.n*z.d=z.n*x.d
 ·right
  have e4:x.n*z.d*y.d=z.n*x.d*y.d:=by rw[e]
  have e5:x.n*y.d*z.d=z.n*y.d*x.d:=by rw[e3,e4,e2]
  have f1:z.n*y.d*x.d=y.n*z.d*x.d:=Int.le_antisymm b1 (by rw[e1,← e5];exact b2)
  have f2:y.n*x.d*z.d=x.n*y.d*z.d:=by rw[← e1,← f1,e5]
  have g1:y.n*z.d=z.n*y.d:=(Int.mul_eq_mul_right_iff (by omega)).1 f1.symm;have g2:x.n*y.d=y.n*x.d:=(Int.mul_eq_mul_right_iff (by omega)).1 f2.symm
  rcases h2 with h2 | h2
  ·exact (h2 g2).elim
  ·rcases k2 with k2 | k2
   ·exact (k2 g1).elim
   ·omega
 ·exact Or.inl e
theorem qcg {x y:Ev} (h:ltE x y=true):ltE y x=false:=by
 simp only[ltE,Bool.or_eq_true,Bool.and_eq_true,decide_eq_true_eq,Bool.or_eq_false_iff,Bool.and_eq_false_iff,decide_eq_false_iff_not] at h ⊢
 rcases h with h | h
 ·exact⟨by omega,Or.inl (by omega)⟩
 ·exact⟨by omega,Or.inr (by omega)⟩
theorem qCm {x y z:Ev} (hx:EvOk x) (hy:EvOk y) (hz:EvOk z) (h:ltE x y=true) (k:ltE y z=true):ltE x z=true:=by
 cases e:ltE x z with
 | true=>rfl
 | false=>
  have:=qbS hz hy hx (qcg k) (qcg h)
  have f:=qbS hy hz hx (qbS hy hz hz (by
   cases e2:ltE y z with
   | false=>rfl
   | true=>
    have g:=qbS hx hz hy e (qcg k)
    rw[h] at g;cases g) (qfJ z)) this
  have g:=qbS hx hz hy e (qcg k);rw[h] at g;cases g
abbrev ya (a b:Ev):Prop:=Pure Tryz.prog 187 #[qaa a,qaa b] (.bool false)
abbrev yb (a:List Int) (b:List Bool) (c:List Int) (d:List Ev) (f:List Int) (g:List Ev) (h:List Int):HpL:=[(13,0,.ls 8 a.length),(13,1,.ls 9 b.length),(13,2,.ls 10 c.length),(13,3,.ls 11 d.length),(13,4,.ls 12 f.length),(7,0,.pv (.slice none 0 0)),(7,1,.pv (.slice none 0 0)),(7,2,.pv (.slice none 0 0)),(7,3,.pv (.slice none 0 0)),(7,4,.pv (.slice none 0 0)),(14,0,.ls 8 a.length),(14,1,.ls 9 b.length),(14,2,.ls 10 c.length),(14,3,.ls 11 d.length),(14,4,.ls 12 f.length),(8,0,zrI a),(9,0,zrB b),(10,0,zrI c),(11,0,.row 61 5 d.length (qau (g))),(12,0,.row 3 1 f.length (ziV (h)))]
abbrev yc (a b:Ev):Prop:=Pure Tryz.prog 282 #[qaa a,qaa b] (.bool false)
abbrev yd (a:List Int) (b:List Bool) (c:List Int) (d:List Ev) (f:List Int):HpL:=[(5,0,zrI a),(6,0,zrB b),(7,0,zrI c),(8,0,qap d),(9,0,zrI f)]
abbrev yg (a:List Int) (b:List Bool) (c:List Int) (d:List Ev) (f:List Int) (g:List Ev) (h:List Int):HpL:=[(14,0,.ls 9 a.length),(14,1,.ls 10 b.length),(14,2,.ls 11 c.length),(14,3,.ls 12 d.length),(14,4,.ls 13 f.length),(8,0,.pv (.slice none 0 0)),(8,1,.pv (.slice none 0 0)),(8,2,.pv (.slice none 0 0)),(8,3,.pv (.slice none 0 0)),(8,4,.pv (.slice none 0 0)),(9,0,zrI a),(10,0,zrB b),(11,0,zrI c),(12,0,.row 61 5 d.length (qau (g))),(13,0,.row 3 1 f.length (ziV (h)))]
abbrev yk (a b:Ev):Prop:=Pure Tryz.prog 282 #[qaa a,qaa b] (.bool true)
abbrev yz (a:List Ev):TmL:=[(0,.ls 3 a.length),(1,.pc 336 [.pp 6 0]),(7,.pv (iV (a.length:Int))),(8,.pv (iV ((0:Nat):Int)))]
end Go.Proofs.YtkckcgpmnipnaaaGreat

namespace Go.Proofs.YtkckcgpmnipnaaaGreat
set_option maxRecDepth 100000
open Go.RowKit
variable {x y m:Ev} {c z:Int} {ev:List Ev} {i q k j:Nat} {u fr wh:List Int} {b:List Bool}
theorem qiX (h1:(x.n==y.n&&(x.d==y.d&&true))=true) (h2:decide (x.k<y.k)=true):Pure Tryz.prog 282 #[qaa x,qaa y] (.bool true):=
 qaJ (args:=[qaa x,qaa y]) 300 [.t true,.t true] (A3 rfl h1 h2 tI) (by kernel_rfl)
theorem qhS (h1:(x.n==y.n&&(x.d==y.d&&true))=false) (hc:Pure Tryz.prog 190 #[qab x.n x.d,qab y.n y.d] (.tuple #[iV c,iV 0])) (h2:decide (c<0)=true):Pure Tryz.prog 282 #[qaa x,qaa y] (.bool true):=
 qaJ (args:=[qaa x,qaa y]) 300 [.t false,Rf hc,.t true] (A4 rfl h1 hc h2 tI) (by kernel_rfl)
theorem qhL (h1:(x.n==y.n&&(x.d==y.d&&true))=true) (h2:decide (x.k<y.k)=false):Pure Tryz.prog 282 #[qaa x,qaa y] (.bool false):=
 qaJ (args:=[qaa x,qaa y]) 300 [.t true,.t false] (A3 rfl h1 h2 tI) (by kernel_rfl)
theorem qg9 (h1:(x.n==y.n&&(x.d==y.d&&true))=false) (hc:Pure Tryz.prog 190 #[qab x.n x.d,qab y.n y.d] (.tuple #[iV c,iV 0])) (h2:decide (c<0)=false):Pure Tryz.prog 282 #[qaa x,qaa y] (.bool false):=
 qaJ (args:=[qaa x,qaa y]) 300 [.t false,Rf hc,.t false] (A4 rfl h1 hc h2 tI) (by kernel_rfl)
theorem qjw {y r:Int} (h1:iV (IntKind.i64.wrap (z-1))=iV y) (nz:¬ (2:Int)=0) (h2:iV (IntKind.i64.wrap (Int.tdiv y 2))=iV r):Pure Tryz.prog 283 #[iV z] (iV r):=
 qaJ (args:=[iV z]) 300 [Re h1,Re h2] (A4 rfl h1 nz h2 tI) (by kernel_rfl)
theorem qBv (h1:decide (0≤z)=false):Pure Tryz.prog 280 #[iV z] (.bool false):=
 qaJ (args:=[iV z]) 300 [.t false] (A2 rfl h1 tI) (by kernel_rfl)
theorem qCz (h1:Dt (0≤z)) (h2:decide (z≤1000000)=false):Pure Tryz.prog 280 #[iV z] (.bool false):=
 qaJ (args:=[iV z]) 300 [.t true,.t false] (A3 rfl h1 h2 tI) (by kernel_rfl)
theorem qCu (h1:Dt (0≤z)) (h2:decide (z≤1000000)=true):Pure Tryz.prog 280 #[iV z] (.bool true):=
 qaJ (args:=[iV z]) 300 [.t true,.t true] (A3 rfl h1 h2 tI) (by kernel_rfl)
theorem qJV (hq:iV (IntKind.i64.wrap (2*(i:Int)))=iV (q:Int)) (hq1:iV (IntKind.i64.wrap ((q:Int)+1))=iV (((q+1:Nat):Int))) (hq2:iV (IntKind.i64.wrap ((q:Int)+2))=iV (((q+2:Nat):Int))) (b1:Dt (((q+1:Nat):Int)≤((q+2:Nat):Int))) (l1:Df (((q+1:Nat):Int)<(ev.length:Int))) :
 Fn 344 1 [.ls 0 ev.length,.pv (iV (i:Int))] [(0,0,qap ev)] (.pv (iV (i:Int))) 0 []:=
 Fz [] [Re hq,Re hq1,Re hq,Re hq2,.t true,.t false]
  tI (A6 hq hq1 hq hq2 b1 l1 tI)
theorem qIi (hq:iV (IntKind.i64.wrap (2*(i:Int)))=iV (q:Int)) (hq1:iV (IntKind.i64.wrap ((q:Int)+1))=iV (((q+1:Nat):Int))) (hq2:iV (IntKind.i64.wrap ((q:Int)+2))=iV (((q+2:Nat):Int))) (b1:Dt (((q+1:Nat):Int)≤((q+2:Nat):Int))) (l1:Dt (((q+1:Nat):Int)<(ev.length:Int))) (hi_x:0≤((q+1:Nat):Int)∧((q+1:Nat):Int)<(ev.length:Int)) (he_x:ev[q+1]?=some x) (hi_m:0≤((i:Nat):Int)∧((i:Nat):Int)<(ev.length:Int)) (he_m:ev[i]?=some m) (hc1:yk x m) (hs1:iV (IntKind.i64.wrap (((q+1:Nat):Int)+1))=iV (((q+2:Nat):Int))) (b2:Dt (((q+2:Nat):Int)≤((q+2:Nat):Int))) (l2:Df (((q+2:Nat):Int)<(ev.length:Int))) :
 Fn 344 1 [.ls 0 ev.length,.pv (iV (i:Int))] [(0,0,qap ev)] (.pv (iV (((q+1:Nat):Int)))) 0 []:=
 Fz [] [Re hq,Re hq1,Re hq,Re hq2,.t true,.t true,.r (qaa x),.r (qaa m),Rf hc1,Re hq2,Re hq,Re hq2,.t true,.t false]
  tI (A9 hq hq1 hq hq2 b1 l1 hi_x (qaF he_x) hi_m (A7 (qaF he_m) hc1 hs1 hq hq2 b2 l2 tI))
theorem qz5 (hq:iV (IntKind.i64.wrap (2*(i:Int)))=iV (q:Int)) (hq1:iV (IntKind.i64.wrap ((q:Int)+1))=iV (((q+1:Nat):Int))) (hq2:iV (IntKind.i64.wrap ((q:Int)+2))=iV (((q+2:Nat):Int))) (b1:Dt (((q+1:Nat):Int)≤((q+2:Nat):Int))) (l1:Dt (((q+1:Nat):Int)<(ev.length:Int))) (hi_x:0≤((q+1:Nat):Int)∧((q+1:Nat):Int)<(ev.length:Int)) (he_x:ev[q+1]?=some x) (hi_m:0≤((i:Nat):Int)∧((i:Nat):Int)<(ev.length:Int)) (he_m:ev[i]?=some m) (hc1:yk x m) (hs1:iV (IntKind.i64.wrap (((q+1:Nat):Int)+1))=iV (((q+2:Nat):Int))) (b2:Dt (((q+2:Nat):Int)≤((q+2:Nat):Int))) (l2:Dt (((q+2:Nat):Int)<(ev.length:Int))) (hi_y:0≤((q+2:Nat):Int)∧((q+2:Nat):Int)<(ev.length:Int)) (he_y:ev[q+2]?=some y) (hc2:yk y x) (hs2:iV (IntKind.i64.wrap (((q+2:Nat):Int)+1))=iV (((q+3:Nat):Int))) (b3:Df (((q+3:Nat):Int)≤((q+2:Nat):Int))) :
 Fn 344 1 [.ls 0 ev.length,.pv (iV (i:Int))] [(0,0,qap ev)] (.pv (iV (((q+2:Nat):Int)))) 0 []:=
 Fz [] [Re hq,Re hq1,Re hq,Re hq2,.t true,.t true,.r (qaa x),.r (qaa m),Rf hc1,Re hq2,Re hq,Re hq2,.t true,.t true,.r (qaa y),.r (qaa x),Rf hc1,.r (iV (((q+3:Nat):Int))),Re hq,Re hq2,.t false]
  tI (A9 hq hq1 hq hq2 b1 l1 hi_x (qaF he_x) hi_m (A9 (qaF he_m) hc1 hs1 hq hq2 b2 l2 hi_y (qaF he_y) (A7 hi_x (qaF he_x) hc2 hs2 hq hq2 b3 tI)))
theorem qCY (hq:iV (IntKind.i64.wrap (2*(i:Int)))=iV (q:Int)) (hq1:iV (IntKind.i64.wrap ((q:Int)+1))=iV (((q+1:Nat):Int))) (hq2:iV (IntKind.i64.wrap ((q:Int)+2))=iV (((q+2:Nat):Int))) (b1:Dt (((q+1:Nat):Int)≤((q+2:Nat):Int))) (l1:Dt (((q+1:Nat):Int)<(ev.length:Int))) (hi_x:0≤((q+1:Nat):Int)∧((q+1:Nat):Int)<(ev.length:Int)) (he_x:ev[q+1]?=some x) (hi_m:0≤((i:Nat):Int)∧((i:Nat):Int)<(ev.length:Int)) (he_m:ev[i]?=some m) (hc1:yk x m) (hs1:iV (IntKind.i64.wrap (((q+1:Nat):Int)+1))=iV (((q+2:Nat):Int))) (b2:Dt (((q+2:Nat):Int)≤((q+2:Nat):Int))) (l2:Dt (((q+2:Nat):Int)<(ev.length:Int))) (hi_y:0≤((q+2:Nat):Int)∧((q+2:Nat):Int)<(ev.length:Int)) (he_y:ev[q+2]?=some y) (hc2:yc y x) (hs2:iV (IntKind.i64.wrap (((q+2:Nat):Int)+1))=iV (((q+3:Nat):Int))) (b3:Df (((q+3:Nat):Int)≤((q+2:Nat):Int))) :
 Fn 344 1 [.ls 0 ev.length,.pv (iV (i:Int))] [(0,0,qap ev)] (.pv (iV (((q+1:Nat):Int)))) 0 []:=
 Fz [] [Re hq,Re hq1,Re hq,Re hq2,.t true,.t true,.r (qaa x),.r (qaa m),Rf hc1,Re hq2,Re hq,Re hq2,.t true,.t true,.r (qaa y),.r (qaa x),Rf hc2,.r (iV (((q+3:Nat):Int))),Re hq,Re hq2,.t false]
  tI (A9 hq hq1 hq hq2 b1 l1 hi_x (qaF he_x) hi_m (A9 (qaF he_m) hc1 hs1 hq hq2 b2 l2 hi_y (qaF he_y) (A7 hi_x (qaF he_x) hc2 hs2 hq hq2 b3 tI)))
theorem qHo (hq:iV (IntKind.i64.wrap (2*(i:Int)))=iV (q:Int)) (hq1:iV (IntKind.i64.wrap ((q:Int)+1))=iV (((q+1:Nat):Int))) (hq2:iV (IntKind.i64.wrap ((q:Int)+2))=iV (((q+2:Nat):Int))) (b1:Dt (((q+1:Nat):Int)≤((q+2:Nat):Int))) (l1:Dt (((q+1:Nat):Int)<(ev.length:Int))) (hi_x:0≤((q+1:Nat):Int)∧((q+1:Nat):Int)<(ev.length:Int)) (he_x:ev[q+1]?=some x) (hi_m:0≤((i:Nat):Int)∧((i:Nat):Int)<(ev.length:Int)) (he_m:ev[i]?=some m) (hc1:yc x m) (hs1:iV (IntKind.i64.wrap (((q+1:Nat):Int)+1))=iV (((q+2:Nat):Int))) (b2:Dt (((q+2:Nat):Int)≤((q+2:Nat):Int))) (l2:Df (((q+2:Nat):Int)<(ev.length:Int))) :
 Fn 344 1 [.ls 0 ev.length,.pv (iV (i:Int))] [(0,0,qap ev)] (.pv (iV (i:Int))) 0 []:=
 Fz [] [Re hq,Re hq1,Re hq,Re hq2,.t true,.t true,.r (qaa x),.r (qaa m),Rf hc1,Re hq2,Re hq,Re hq2,.t true,.t false]
  tI (A9 hq hq1 hq hq2 b1 l1 hi_x (qaF he_x) hi_m (A7 (qaF he_m) hc1 hs1 hq hq2 b2 l2 tI))
theorem qzX (hq:iV (IntKind.i64.wrap (2*(i:Int)))=iV (q:Int)) (hq1:iV (IntKind.i64.wrap ((q:Int)+1))=iV (((q+1:Nat):Int))) (hq2:iV (IntKind.i64.wrap ((q:Int)+2))=iV (((q+2:Nat):Int))) (b1:Dt (((q+1:Nat):Int)≤((q+2:Nat):Int))) (l1:Dt (((q+1:Nat):Int)<(ev.length:Int))) (hi_x:0≤((q+1:Nat):Int)∧((q+1:Nat):Int)<(ev.length:Int)) (he_x:ev[q+1]?=some x) (hi_m:0≤((i:Nat):Int)∧((i:Nat):Int)<(ev.length:Int)) (he_m:ev[i]?=some m) (hc1:yc x m) (hs1:iV (IntKind.i64.wrap (((q+1:Nat):Int)+1))=iV (((q+2:Nat):Int))) (b2:Dt (((q+2:Nat):Int)≤((q+2:Nat):Int))) (l2:Dt (((q+2:Nat):Int)<(ev.length:Int))) (hi_y:0≤((q+2:Nat):Int)∧((q+2:Nat):Int)<(ev.length:Int)) (he_y:ev[q+2]?=some y) (hc2:yk y m) (hs2:iV (IntKind.i64.wrap (((q+2:Nat):Int)+1))=iV (((q+3:Nat):Int))) (b3:Df (((q+3:Nat):Int)≤((q+2:Nat):Int))) :
 Fn 344 1 [.ls 0 ev.length,.pv (iV (i:Int))] [(0,0,qap ev)] (.pv (iV (((q+2:Nat):Int)))) 0 []:=
 Fz [] [Re hq,Re hq1,Re hq,Re hq2,.t true,.t true,.r (qaa x),.r (qaa m),Rf hc1,Re hq2,Re hq,Re hq2,.t true,.t true,.r (qaa y),.r (qaa m),Rf hc2,.r (iV (((q+3:Nat):Int))),Re hq,Re hq2,.t false]
  tI (A9 hq hq1 hq hq2 b1 l1 hi_x (qaF he_x) hi_m (A9 (qaF he_m) hc1 hs1 hq hq2 b2 l2 hi_y (qaF he_y) (A7 hi_m (qaF he_m) hc2 hs2 hq hq2 b3 tI)))
theorem qCB (hq:iV (IntKind.i64.wrap (2*(i:Int)))=iV (q:Int)) (hq1:iV (IntKind.i64.wrap ((q:Int)+1))=iV (((q+1:Nat):Int))) (hq2:iV (IntKind.i64.wrap ((q:Int)+2))=iV (((q+2:Nat):Int))) (b1:Dt (((q+1:Nat):Int)≤((q+2:Nat):Int))) (l1:Dt (((q+1:Nat):Int)<(ev.length:Int))) (hi_x:0≤((q+1:Nat):Int)∧((q+1:Nat):Int)<(ev.length:Int)) (he_x:ev[q+1]?=some x) (hi_m:0≤((i:Nat):Int)∧((i:Nat):Int)<(ev.length:Int)) (he_m:ev[i]?=some m) (hc1:yc x m) (hs1:iV (IntKind.i64.wrap (((q+1:Nat):Int)+1))=iV (((q+2:Nat):Int))) (b2:Dt (((q+2:Nat):Int)≤((q+2:Nat):Int))) (l2:Dt (((q+2:Nat):Int)<(ev.length:Int))) (hi_y:0≤((q+2:Nat):Int)∧((q+2:Nat):Int)<(ev.length:Int)) (he_y:ev[q+2]?=some y) (hc2:yc y m) (hs2:iV (IntKind.i64.wrap (((q+2:Nat):Int)+1))=iV (((q+3:Nat):Int))) (b3:Df (((q+3:Nat):Int)≤((q+2:Nat):Int))) :
 Fn 344 1 [.ls 0 ev.length,.pv (iV (i:Int))] [(0,0,qap ev)] (.pv (iV (i:Int))) 0 []:=
 Fz [] [Re hq,Re hq1,Re hq,Re hq2,.t true,.t true,.r (qaa x),.r (qaa m),Rf hc1,Re hq2,Re hq,Re hq2,.t true,.t true,.r (qaa y),.r (qaa m),Rf hc1,.r (iV (((q+3:Nat):Int))),Re hq,Re hq2,.t false]
  tI (A9 hq hq1 hq hq2 b1 l1 hi_x (qaF he_x) hi_m (A9 (qaF he_m) hc1 hs1 hq hq2 b2 l2 hi_y (qaF he_y) (A7 hi_m (qaF he_m) hc2 hs2 hq hq2 b3 tI)))
theorem qo1 (hk:ev[k]?=some x) (hin:Bd k ev.length) (hj:ev[j]?=some y) (hij:Bd j ev.length) (hlt:Dt ((k:Int)<(ev.length:Int))) (hp:Pure Tryz.prog 283 #[iV (k:Int)] (iV (j:Int))) (hl:yc x y) (hs:iV (IntKind.i64.wrap ((k:Int)+1))=iV (((k+1:Nat):Int))) {e:Exit} {tm2:TmL} {hp2:HpL}
 (r:Rl 1 1 227 0 20 1 ([(0,.ls 0 ev.length),(3,.pv (iV ((k+1:Nat):Int)))]) ([(0,0,qap ev)]) e tm2 hp2):Rl 1 1 227 0 20 1 ([(0,.ls 0 ev.length),(3,.pv (iV (k:Int)))]) ([(0,0,qap ev)]) e tm2 hp2:=
 RunsL.next [] 300 [.t true,.r (qaa x),Rf hp,.r (qaa y),Rf hl,Re hs]
  (Ro (A8 hlt hin (qaF hk) hp hij (qaF hj) hl hs tI)) r
theorem qDo (hk:ev[k]?=some x) (hin:Bd k ev.length) (hj:ev[j]?=some y) (hij:Bd j ev.length) (hlt:Dt ((k:Int)<(ev.length:Int))) (hp:Pure Tryz.prog 283 #[iV (k:Int)] (iV (j:Int))) (hl:yk x y):Rl 1 1 227 0 20 1 ([(0,.ls 0 ev.length),(3,.pv (iV (k:Int)))]) ([(0,0,qap ev)]) (.ret) ([(2,.pv (.bool false))]) ([]):=
 RunsL.stop [] 300 [.t true,.r (qaa x),Rf hp,.r (qaa y),Rf hl] (fun h=>by cases h)
  (Ro (A7 hlt hin (qaF hk) hp hij (qaF hj) hl tI))
theorem quq (hge:decide ((k:Int)<(ev.length:Int))=false):Rl 1 1 227 0 20 1 ([(0,.ls 0 ev.length),(3,.pv (iV (k:Int)))]) ([(0,0,qap ev)]) (.exit 0) ([]) ([]):=
 RunsL.stop [] 300 [.t false] (fun h=>by cases h)
  (Ro (Ai hge tI))
theorem qGt (r0:Rl 1 1 227 0 20 1 ([(0,.ls 0 ev.length),(3,.pv (iV ((1:Nat):Int)))]) ([(0,0,qap ev)]) (.ret) ([(2,.pv (.bool false))]) ([])) :
 Fn 227 1 [.ls 0 ev.length] [(0,0,qap ev)] (.pv (.bool false)) 0 []:=
 Fz [] [Lf r0]
  tI (Lo r0 [] tI)
theorem qB2 (r0:Rl 1 1 227 0 20 1 ([(0,.ls 0 ev.length),(3,.pv (iV ((1:Nat):Int)))]) ([(0,0,qap ev)]) (.exit 0) ([]) ([])) :
 Fn 227 1 [.ls 0 ev.length] [(0,0,qap ev)] (.pv (.bool true)) 0 []:=
 Fz [] [Lf r0]
  tI (Lo r0 [] tI)
abbrev qhq (b:List Bool) (ev:List Ev) (fr:List Int) (u:List Int) (wh:List Int):HpL:=[(0,0,zrI u),(1,0,zrB b),(2,0,zrI fr),(3,0,qap ev),(4,0,zrI wh)]
theorem qAU (hiw:Bd k wh.length) (hw:wh[k]?=some z) (hiu:Bd k u.length) (hu:u[k]?=some c) (h0:Df (0≤z)) :
 Fn 279 5 [agA u b fr ev wh,.pv (iV (k:Int))] (qhq b ev fr u wh) (.pv (.bool false)) 0 []:=
 Fz [] [.r (iV (z)),.r (iV (c)),.t false]
  tI (A5 hiw (qbb hw) hiu (qbb hu) h0 tI)
theorem qB1 (hiw:Bd k wh.length) (hw:wh[k]?=some z) (hiu:Bd k u.length) (hu:u[k]?=some c) (h0:Dt (0≤z)) (h1:Df (z<(ev.length:Int))) :
 Fn 279 5 [agA u b fr ev wh,.pv (iV (k:Int))] (qhq b ev fr u wh) (.pv (.bool false)) 0 []:=
 Fz [] [.r (iV (z)),.r (iV (c)),.t true,.t false]
  tI (A6 hiw (qbb hw) hiu (qbb hu) h0 h1 tI)
theorem qvL (hiw:Bd k wh.length) (hw:wh[k]?=some z) (hiu:Bd k u.length) (hu:u[k]?=some c) (h0:Dt (0≤z)) (h1:Dt (z<(ev.length:Int))) (hz:0≤z∧z<(ev.length:Int)) (hx:ev[z.toNat]?=some x) (h2:(x.i==(k:Int)&&(x.w==c&&true))=true) :
 Fn 279 5 [agA u b fr ev wh,.pv (iV (k:Int))] (qhq b ev fr u wh) (.pv (.bool true)) 0 []:=
 Fz [] [.r (iV (z)),.r (iV (c)),.t true,.t true,.r (qaK x.i x.w),.t true]
  tI (A9 hiw (qbb hw) hiu (qbb hu) h0 h1 hz (qzy hx) h2 tI)
theorem qsv (hiw:Bd k wh.length) (hw:wh[k]?=some z) (hiu:Bd k u.length) (hu:u[k]?=some c) (h0:Dt (0≤z)) (h1:Dt (z<(ev.length:Int))) (hz:0≤z∧z<(ev.length:Int)) (hx:ev[z.toNat]?=some x) (h2:(x.i==(k:Int)&&(x.w==c&&true))=false) :
 Fn 279 5 [agA u b fr ev wh,.pv (iV (k:Int))] (qhq b ev fr u wh) (.pv (.bool false)) 0 []:=
 Fz [] [.r (iV (z)),.r (iV (c)),.t true,.t true,.r (qaK x.i x.w),.t false]
  tI (A9 hiw (qbb hw) hiu (qbb hu) h0 h1 hz (qzy hx) h2 tI)
abbrev qlD (b:List Bool) (ev:List Ev) (fr:List Int) (u:List Int) (wh:List Int):HpL:=[(5,0,.ls 0 u.length),(5,1,.ls 1 b.length),(5,2,.ls 2 fr.length),(5,3,.ls 3 ev.length),(5,4,.ls 4 wh.length),(0,0,zrI u),(1,0,zrB b),(2,0,zrI fr),(3,0,qap ev),(4,0,zrI wh)]
abbrev qAo (b:List Bool) (j:Nat) (k:Nat):TmL:=[(1,.pp 5 0),(3,.pv (iV (j:Int))),(16,.ls 1 b.length),(17,.pv (iV (b.length:Int))),(18,.pv (iV (k:Int)))]
theorem qpH (hb:b[k]?=some false) (hib:0≤(k:Int)∧(k:Int)<(b.length:Int)) (hlt:decide ((k:Int)<(b.length:Int))=true) (hiw:0≤(k:Int)∧(k:Int)<(wh.length:Int)) (hw:wh[k]?=some z) (hz:(!(z==-1))=false) (hs:iV (IntKind.i64.wrap ((k:Int)+1))=iV (((k+1:Nat):Int))) {e:Exit} {tm2:TmL} {hp2:HpL}
 (r:Rl 5 5 225 0 51 6 ([(1,.pp 5 0),(3,.pv (iV (j:Int))),(16,.ls 1 b.length),(17,.pv (iV (b.length:Int))),(18,.pv (iV ((k+1:Nat):Int)))]) (qlD b ev fr u wh) e tm2 hp2):Rl 5 5 225 0 51 6 (qAo b j k) (qlD b ev fr u wh) e tm2 hp2:=
 RunsL.next [] 300 [.t true,.r (.bool false),.k,.r (iV (z)),.t false,Re hs]
  (Ro (A7 hlt hib (qcM hb) hiw (qbb hw) hz hs tI)) r
theorem qvu (hb:b[k]?=some false) (hib:0≤(k:Int)∧(k:Int)<(b.length:Int)) (hlt:decide ((k:Int)<(b.length:Int))=true) (hiw:0≤(k:Int)∧(k:Int)<(wh.length:Int)) (hw:wh[k]?=some z) (hz:(!(z==-1))=true):Rl 5 5 225 0 51 6 (qAo b j k) (qlD b ev fr u wh) (.ret) ([(2,.pv (.bool false))]) ([]):=
 RunsL.stop [] 300 [.t true,.r (.bool false),.k,.r (iV (z)),.t true] (fun h=>by cases h)
  (Ro (A6 hlt hib (qcM hb) hiw (qbb hw) hz tI))
theorem qnM (hb:b[k]?=some true) (hib:0≤(k:Int)∧(k:Int)<(b.length:Int)) (hlt:decide ((k:Int)<(b.length:Int))=true) (hh:Fn 279 5 [agA u b fr ev wh,.pv (iV (k:Int))] (qhq b ev fr u wh) (.pv (.bool true)) 0 []) (hj:iV (IntKind.i64.wrap ((j:Int)+1))=iV (((j+1:Nat):Int))) (hs:iV (IntKind.i64.wrap ((k:Int)+1))=iV (((k+1:Nat):Int))) {e:Exit} {tm2:TmL} {hp2:HpL}
 (r:Rl 5 5 225 0 51 6 ([(1,.pp 5 0),(3,.pv (iV ((j+1:Nat):Int))),(16,.ls 1 b.length),(17,.pv (iV (b.length:Int))),(18,.pv (iV ((k+1:Nat):Int)))]) (qlD b ev fr u wh) e tm2 hp2):Rl 5 5 225 0 51 6 (qAo b j k) (qlD b ev fr u wh) e tm2 hp2:=
 RunsL.next [] 300 [.t true,.r (.bool true),.k,Cf hh [0,1,2,3,4],.k,Re hj,Re hs]
  (Ro (A3 hlt hib (qcM hb) (Co hh [0,1,2,3,4] 6 (A2 hj hs tI)))) r
theorem qwU (hb:b[k]?=some true) (hib:Bd k b.length) (hlt:Dt ((k:Int)<(b.length:Int))) (hh:Fn 279 5 [agA u b fr ev wh,.pv (iV (k:Int))] (qhq b ev fr u wh) (.pv (.bool false)) 0 []):Rl 5 5 225 0 51 6 (qAo b j k) (qlD b ev fr u wh) (.ret) ([(2,.pv (.bool false))]) ([]):=
 RunsL.stop [] 300 [.t true,.r (.bool true),.k,Cf hh [0,1,2,3,4],.k] (fun h=>by cases h)
  (Ro (A3 hlt hib (qcM hb) (Co hh [0,1,2,3,4] 6 tI)))
theorem qCG (hge:decide ((k:Int)<(b.length:Int))=false):Rl 5 5 225 0 51 6 (qAo b j k) (qlD b ev fr u wh) (.exit 0) ([(1,.pp 5 0),(3,.pv (iV (j:Int)))]) (qlD b ev fr u wh):=
 RunsL.stop [] 300 [.t false] (fun h=>by cases h)
  (Ro (Ai hge tI))
theorem qBP (hn:(!((wh.length:Int)==(b.length:Int)))=true) :
 Fn 225 5 [agA u b fr ev wh] (qhq b ev fr u wh) (.pv (.bool false)) 0 []:=
 Fz [] [.t true]
  tI (Ai hn tI)
abbrev qFl (b:List Bool):TmL:=[(1,.pp 5 0),(3,.pv (iV ((0:Nat):Int))),(16,.ls 1 b.length),(17,.pv (iV (b.length:Int))),(18,.pv (iV ((0:Nat):Int)))]
theorem qGK (hn:(!((wh.length:Int)==(b.length:Int)))=false) (r0:Rl 5 5 225 0 51 6 (qFl b) (qlD b ev fr u wh) (.ret) ([(2,.pv (.bool false))]) ([])) :
 Fn 225 5 [agA u b fr ev wh] (qhq b ev fr u wh) (.pv (.bool false)) 0 []:=
 Fz [] [.t false,Lf r0]
  tI (Ai hn (Lo r0 [] tI))
theorem qjh (hn:(!((wh.length:Int)==(b.length:Int)))=false) (r0:Rl 5 5 225 0 51 6 (qFl b) (qlD b ev fr u wh) (.exit 0) ([(1,.pp 5 0),(3,.pv (iV (j:Int)))]) (qlD b ev fr u wh)) (hc:((j:Int)==(ev.length:Int))=true) :
 Fn 225 5 [agA u b fr ev wh] (qhq b ev fr u wh) (.pv (.bool true)) 0 []:=
 Fz [] [.t false,Lf r0,.t true]
  tI (Ai hn (Lo r0 [] (Ai hc tI)))
theorem qiU (hn:(!((wh.length:Int)==(b.length:Int)))=false) (r0:Rl 5 5 225 0 51 6 (qFl b) (qlD b ev fr u wh) (.exit 0) ([(1,.pp 5 0),(3,.pv (iV (j:Int)))]) (qlD b ev fr u wh)) (hc:((j:Int)==(ev.length:Int))=false) :
 Fn 225 5 [agA u b fr ev wh] (qhq b ev fr u wh) (.pv (.bool false)) 0 []:=
 Fz [] [.t false,Lf r0,.t false]
  tI (Ai hn (Lo r0 [] (Ai hc tI)))
theorem qBG (h1:Fn 224 3 [.ag [.ls 0 u.length,.ls 1 b.length,.ls 2 fr.length]] (yi u b fr) (.pv (iV (8))) 0 []) :
 Fn 177 5 [agA u b fr ev wh] (qhq b ev fr u wh) (.pv (iV (8))) 0 []:=
 Fz [] [Cf h1 [0,1,2],.k]
  tI (Co h1 [0,1,2] 6 tI)
abbrev qEB (b:List Bool) (fr:List Int) (u:List Int):Prop:=Fn 224 3 [.ag [.ls 0 u.length,.ls 1 b.length,.ls 2 fr.length]] [(0,0,zrI u),(1,0,zrB b),(2,0,zrI fr)] (.pv (iV (0))) 0 []
theorem qDt (h1:qEB b fr u) (h2:Fn 225 5 [agA u b fr ev wh] (qhq b ev fr u wh) (.pv (.bool false)) 0 []) :
 Fn 177 5 [agA u b fr ev wh] (qhq b ev fr u wh) (.pv (iV (8))) 0 []:=
 Fz [] [Cf h1 [0,1,2],.k,Cf h2 [0,1,2,3,4],.k]
  tI (Co h1 [0,1,2] 6 (Co h2 [0,1,2,3,4] 6 tI))
theorem qCd (h1:qEB b fr u) (h2:Fn 225 5 [agA u b fr ev wh] (qhq b ev fr u wh) (.pv (.bool true)) 0 []) (h3:Fn 226 1 [.ls 0 ev.length] [(0,0,qap ev)] (.pv (.bool false)) 0 []) :
 Fn 177 5 [agA u b fr ev wh] (qhq b ev fr u wh) (.pv (iV (8))) 0 []:=
 Fz [] [Cf h1 [0,1,2],.k,Cf h2 [0,1,2,3,4],.k,Cf h3 [3],.k]
  tI (Co h1 [0,1,2] 6 (Co h2 [0,1,2,3,4] 6 (Co h3 [3] 6 tI)))
theorem qBQ (h1:qEB b fr u) (h2:Fn 225 5 [agA u b fr ev wh] (qhq b ev fr u wh) (.pv (.bool true)) 0 []) (h3:Fn 226 1 [.ls 0 ev.length] [(0,0,qap ev)] (.pv (.bool true)) 0 []) (h4:Fn 227 1 [.ls 0 ev.length] [(0,0,qap ev)] (.pv (.bool false)) 0 []) :
 Fn 177 5 [agA u b fr ev wh] (qhq b ev fr u wh) (.pv (iV (8))) 0 []:=
 Fz [] [Cf h1 [0,1,2],.k,Cf h2 [0,1,2,3,4],.k,Cf h3 [3],.k,Cf h4 [3],.k]
  tI (Co h1 [0,1,2] 6 (Co h2 [0,1,2,3,4] 6 (Co h3 [3] 6 (Co h4 [3] 6 tI))))
theorem qBn (h1:qEB b fr u) (h2:Fn 225 5 [agA u b fr ev wh] (qhq b ev fr u wh) (.pv (.bool true)) 0 []) (h3:Fn 226 1 [.ls 0 ev.length] [(0,0,qap ev)] (.pv (.bool true)) 0 []) (h4:Fn 227 1 [.ls 0 ev.length] [(0,0,qap ev)] (.pv (.bool true)) 0 []) :
 Fn 177 5 [agA u b fr ev wh] (qhq b ev fr u wh) (.pv (iV (0))) 0 []:=
 Fz [] [Cf h1 [0,1,2],.k,Cf h2 [0,1,2,3,4],.k,Cf h3 [3],.k,Cf h3 [3],.k]
  tI (Co h1 [0,1,2] 6 (Co h2 [0,1,2,3,4] 6 (Co h3 [3] 6 (Co h4 [3] 6 tI))))
end Go.Proofs.YtkckcgpmnipnaaaGreat
