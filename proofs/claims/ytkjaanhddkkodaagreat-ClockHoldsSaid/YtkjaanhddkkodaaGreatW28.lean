/-
  Joined: Zc, Zd. Conditions: none.
-/
import Derived.Test.YtkjaanhddkkodaaGreatW22
import Derived.Test.YtkjaanhddkkodaaGreatW18
namespace Go.Proofs.YtkjaanhddkkodaaGreat
set_option maxRecDepth 100000
open Go.RowKit
abbrev slA (u:List Int) (b:List Bool) (f:List Int):SV:=.ag [.ls 0 u.length,.ls 1 b.length,.ls 2 f.length]
abbrev slP (u:List Int) (b:List Bool) (f:List Int):List (Nat×Nat×SV):=[(0,0,zrI u),(1,0,zrB b),(2,0,zrI f)]
section
variable {u f:List Int} {b:List Bool}
theorem qcx (x:Int):Fn 231 3 [slA u b f,.pv (iV x)] (slP u b f) (.pv (.bool (decide (0≤x)&&decide (x<(b.length:Int))))) 0 []:=by
 by_cases h1:0≤x
 ·by_cases h2:x<(b.length:Int)
  ·have:=qwy (u:=u) (fr:=f) (b:=b) (x:=x) (by simpa using h1) (by simpa using h2)
   simpa [h1,h2] using this
  ·have:=qun (u:=u) (fr:=f) (b:=b) (x:=x) (by simpa using h1) (by simpa using h2)
   simpa [h1,h2] using this
 ·have:=qww (u:=u) (fr:=f) (b:=b) (x:=x) (by simpa using h1)
  simpa [h1] using this
abbrev ufT (b:List Bool) (k:Nat):List (Nat×SV):=[(1,.pp 3 0),(7,.ls 1 b.length),(8,.pv (iV (b.length:Int))),(9,.pv (iV (k:Int)))]
abbrev ufH (u:List Int) (b:List Bool) (f:List Int):List (Nat×Nat×SV):=[(3,0,.ls 0 u.length),(3,1,.ls 1 b.length),(3,2,.ls 2 f.length),(0,0,zrI u),(1,0,zrB b),(2,0,zrI f)]
theorem qey (hl:b.length=u.length) (hn:b.length≤1000000):∀ (d k:Nat),k+d=b.length→
 ((∀ (j:Nat) (x:Int) (c:Bool),k≤j→u[j]?=some x→b[j]?=some c→(if c=true then 1 else 0)≤x∧x≤1000000)→Rl 3 3 207 0 31 4 (ufT b k) (ufH u b f) (.exit 0) [] [])∧
 (¬ (∀ (j:Nat) (x:Int) (c:Bool),k≤j→u[j]?=some x→b[j]?=some c→(if c=true then 1 else 0)≤x∧x≤1000000)→Rl 3 3 207 0 31 4 (ufT b k) (ufH u b f) .ret [(2,.pv (.bool false))] [])
 | 0,k,h=>by
  refine⟨fun _=>qBf (by simp;omega),fun hno=>(hno fun j x c hj hx hc=>?_).elim⟩
  have:=(List.getElem?_eq_some_iff.1 hc).1
  omega
 | d+1,k,h=>by
  have hk:k<b.length:=by omega
  have hku:k<u.length:=by omega
  obtain⟨y,hy⟩:∃ y,u[k]?=some y:=⟨_,List.getElem?_eq_getElem hku⟩
  obtain⟨c,hc⟩:∃ c,b[k]?=some c:=⟨_,List.getElem?_eq_getElem hk⟩
  obtain⟨ih1,ih2⟩:=qey hl hn d (k+1) (by omega)
  have i1:0≤(k:Int)∧(k:Int)<(b.length:Int):=by omega
  have i2:0≤(k:Int)∧(k:Int)<(u.length:Int):=by omega
  have lt:decide ((k:Int)<(b.length:Int))=true:=by simp;omega
  have hs:=qaE (k:=k) (by omega)
  have split:(∀ (j:Nat) (x:Int) (c:Bool),k≤j→u[j]?=some x→b[j]?=some c→(if c=true then 1 else 0)≤x∧x≤1000000)↔((if c=true then 1 else 0)≤y∧y≤1000000)∧(∀ (j:Nat) (x:Int) (c:Bool),k+1≤j→u[j]?=some x→b[j]?=some c→(if c=true then 1 else 0)≤x∧x≤1000000):=by
   constructor
   ·intro H
    exact⟨H k y c (Nat.le_refl _) hy hc,fun j x c' hj=>H j x c' (by omega)⟩
   ·rintro⟨H1,H2⟩ j x c' hj hx hc'
    by_cases e:j=k
    ·subst e
     rw[hy] at hx;rw[hc] at hc'
     cases hx;cases hc'
     exact H1
    ·exact H2 j x c' (by omega) hx hc'
  by_cases h1:(if c=true then (1:Int) else 0)≤y
  ·by_cases h2:y≤1000000
   ·have hi:decide (y>1000000)=false:=by simp;omega
    have go:∀ {e:Exit} {tm2:TmL} {hp2:HpL},Rl 3 3 207 0 31 4 (ufT b (k+1)) (ufH u b f) e tm2 hp2→Rl 3 3 207 0 31 4 (ufT b k) (ufH u b f) e tm2 hp2:=fun r=>by
     cases c with
     | true=>exact qhT hc hy i1 i2 lt (by simp at h1 ⊢;omega) hi hs r
     | false=>exact qgW hc hy i1 i2 lt (by simp at h1 ⊢;omega) hi hs r
    exact⟨fun H=>go (ih1 (split.1 H).2),fun H=>go (ih2 fun H2=>H (split.2 ⟨⟨h1,h2⟩,H2⟩))⟩
   ·have hi:decide (y>1000000)=true:=by simp;omega
    refine⟨fun H=>(h2 (split.1 H).1.2).elim,fun _=>?_⟩
    cases c with
    | true=>exact qls hc hy i1 i2 lt (by simp at h1 ⊢;omega) hi
    | false=>exact qiy hc hy i1 i2 lt (by simp at h1 ⊢;omega) hi
  ·refine⟨fun H=>(h1 (split.1 H).1.1).elim,fun _=>?_⟩
   cases c with
   | true=>exact qkw hc hy i1 i2 lt (by simp at h1 ⊢;omega)
   | false=>exact qix hc hy i1 i2 lt (by simp at h1 ⊢;omega)
theorem qjg (hl:b.length=u.length) (hn:b.length≤1000000):Fn 207 3 [slA u b f] (slP u b f) (.pv (.bool (qw2 u b))) 0 []:=by
 obtain⟨h1,h2⟩:=qey (f:=f) hl hn b.length 0 (by omega)
 cases e:qw2 u b
 ·exact qEp (h2 fun H=>by rw[(qeQ hl).2 fun k x c=>H k x c (by omega)] at e;cases e)
 ·have H:=(qeQ hl).1 e
  exact qx4 (h1 fun j x c _=>H j x c)
abbrev ffT (b:List Bool) (k:Nat):List (Nat×SV):=[(1,.pp 3 0),(3,.pp 5 0),(12,.ls 1 b.length),(13,.pv (iV (b.length:Int))),(14,.pv (iV (k:Int)))]
abbrev ffH (u:List Int) (b:List Bool) (f:List Int) (g:List Bool):List (Nat×Nat×SV):=[(3,0,.ls 0 u.length),(3,1,.ls 1 b.length),(3,2,.ls 2 f.length),(5,0,.ls 4 b.length),(0,0,zrI u),(1,0,zrB b),(2,0,zrI f),(4,0,.row 4 1 b.length (zbV g))]
abbrev ffG (b:List Bool) (k:Nat):List Bool:=(b.map not).take k++List.replicate (b.length-k) false
theorem qqr {k:Nat} {c:Bool} (hc:b[k]?=some c):(ffG b k).set k (!c)=ffG b (k+1):=by
 have hk:=(List.getElem?_eq_some_iff.1 hc).1
 unfold ffG
 rw[List.set_append_right _ _ (by simp;omega),List.length_take,List.length_map,show min k b.length=k by omega,Nat.sub_self,show b.length-k=(b.length-(k+1))+1 by omega,List.replicate_succ,List.set_cons_zero,List.take_add_one,List.getElem?_map,hc]
 simp
theorem qfy (hn:b.length≤1000000):Rl 3 3 208 0 36 6 (ffT b 0) (ffH u b f (List.replicate b.length false)) (.exit 0) [(1,.pp 3 0),(3,.pp 5 0)] (ffH u b f (b.map not)):=by
 have e0:List.replicate b.length false=ffG b 0:=by simp[ffG]
 have e1:b.map not=ffG b b.length:=by unfold ffG;rw[List.take_of_length_le (by simp)];simp
 rw[e0,e1]
 refine RunsL.roundsZ (fun k=>ffT b k) (fun k=>ffH u b f (ffG b k)) b.length 0 (by omega) (fun k _ hk r=>?_) (qzI (by simp))
 obtain⟨c,hc⟩:∃ c,b[k]?=some c:=⟨_,List.getElem?_eq_getElem hk⟩
 have hg:k<(ffG b k).length:=by simp[ffG];omega
 have lt:decide ((k:Int)<(b.length:Int))=true:=by simp;omega
 rw[← qqr hc] at r
 cases c with
 | true=>exact qhC hc (by omega) hg lt (qaE (by omega)) r
 | false=>exact qgh hc (by omega) hg lt (qaE (by omega)) r
abbrev fxT (f:List Int) (k:Nat):List (Nat×SV):=[(0,.ls 2 f.length),(1,.pc 230 [.pp 3 0,.pp 5 0]),(7,.pv (iV (f.length:Int))),(8,.pv (iV (k:Int)))]
theorem qdg (hf:f.length≤1000000):∀ (d k:Nat) (g:List Bool),k+d=f.length→g.length=b.length→
 (∀ g',qbr g (f.drop k)=some g'→Rl 3 6 246 0 19 6 (fxT f k) (ffH u b f g) (.exit 0) [] (ffH u b f g'))∧
 (qbr g (f.drop k)=none→∃ (j:Nat) (g':List Bool),Rl 3 6 246 0 19 6 (fxT f k) (ffH u b f g) .ret [(4,.pv (iV (j:Int)))] (ffH u b f g'))
 | 0,k,g,h,hg=>by
  have e:f.drop k=[]:=List.drop_eq_nil_iff.2 (by omega)
  rw[e]
  refine⟨fun g' h'=>?_,fun h'=>(by cases h')⟩
  cases h'
  exact qA6 (by simp;omega)
 | d+1,k,g,h,hg=>by
  have hk:k<f.length:=by omega
  obtain⟨x,hx⟩:∃ x,f[k]?=some x:=⟨_,List.getElem?_eq_getElem hk⟩
  have e:f.drop k=x::f.drop (k+1):=by
   rw[List.drop_eq_getElem_cons hk]
   rw[List.getElem?_eq_getElem hk] at hx
   cases hx;rfl
  have i1:0≤(k:Int)∧(k:Int)<(f.length:Int):=by omega
  have lt:decide ((k:Int)<(f.length:Int))=true:=by simp;omega
  rw[e]
  unfold qbr
  by_cases hin:0≤x∧x<(b.length:Int)
  ·have hhs:Fn 231 3 [slA u b f,.pv (iV x)] (slP u b f) (.pv (.bool true)) 0 []:=by
    have:=qcx (u:=u) (f:=f) (b:=b) x
    simpa [hin.1,hin.2] using this
   have hxl:x.toNat<g.length:=by omega
   obtain⟨c,hc⟩:∃ c,g[x.toNat]?=some c:=⟨_,List.getElem?_eq_getElem hxl⟩
   cases c with
   | true=>
    rw[if_pos ⟨hin.1,by omega,hc⟩]
    obtain⟨i3,i4⟩:=qdg hf d (k+1) (g.set x.toNat false) (by omega) (by rw[List.length_set];exact hg)
    have go:∀ {e:Exit} {tm2:TmL} {hp2:HpL},Rl 3 6 246 0 19 6 (fxT f (k+1)) (ffH u b f (g.set x.toNat false)) e tm2 hp2→Rl 3 6 246 0 19 6 (fxT f k) (ffH u b f g) e tm2 hp2:=fun r=>
     quz hx i1 lt hhs hc hin hxl (qaE (by omega)) r
    refine⟨fun g' h'=>go (i3 g' h'),fun h'=>?_⟩
    obtain⟨j,g',r⟩:=i4 h'
    exact⟨j,g',go r⟩
   | false=>
    rw[if_neg (fun h'=>by rw[hc] at h';cases h'.2.2)]
    exact⟨fun g' h'=>(by cases h'),fun _=>⟨k,g,qum hx i1 lt hhs hc hin⟩⟩
  ·rw[if_neg (fun h'=>hin ⟨h'.1,by omega⟩)]
   have hhs:Fn 231 3 [slA u b f,.pv (iV x)] (slP u b f) (.pv (.bool false)) 0 []:=by
    have:=qcx (u:=u) (f:=f) (b:=b) x
    have e:(decide (0≤x)&&decide (x<(b.length:Int)))=false:=by
     rw[Bool.and_eq_false_iff]
     by_cases h0:0≤x
     ·right;simp;omega
     ·left;simpa using h0
    rw[e] at this
    exact this
   exact⟨fun g' h'=>(by cases h'),fun _=>⟨k,g,qx3 hx i1 lt hhs⟩⟩
theorem qdF {g:List Bool} (hn:g.length≤1000000):∀ (d k:Nat),k+d=g.length→
 (true∉g.drop k→Rl 1 1 247 0 19 1 [(0,.ls 0 g.length),(1,.pv (.bool true)),(7,.pv (iV (g.length:Int))),(8,.pv (iV (k:Int)))] [(0,0,zrB g)] (.exit 0) [] [])∧
 (true∈g.drop k→∃ j:Nat,Rl 1 1 247 0 19 1 [(0,.ls 0 g.length),(1,.pv (.bool true)),(7,.pv (iV (g.length:Int))),(8,.pv (iV (k:Int)))] [(0,0,zrB g)] .ret [(4,.pv (iV (j:Int)))] [])
 | 0,k,h=>by
  have e:g.drop k=[]:=List.drop_eq_nil_iff.2 (by omega)
  rw[e]
  exact⟨fun _=>qxc (by simp;omega),fun h=>by cases h⟩
 | d+1,k,h=>by
  have hk:k<g.length:=by omega
  obtain⟨c,hc⟩:∃ c,g[k]?=some c:=⟨_,List.getElem?_eq_getElem hk⟩
  have e:g.drop k=c::g.drop (k+1):=by
   rw[List.drop_eq_getElem_cons hk]
   rw[List.getElem?_eq_getElem hk] at hc
   cases hc;rfl
  have i1:0≤(k:Int)∧(k:Int)<(g.length:Int):=by omega
  have lt:decide ((k:Int)<(g.length:Int))=true:=by simp;omega
  obtain⟨i3,i4⟩:=qdF hn d (k+1) (by omega)
  rw[e]
  cases c with
  | true=>exact⟨fun h=>(h List.mem_cons_self).elim,fun _=>⟨k,qv0 hc i1 lt⟩⟩
  | false=>
   refine⟨fun h=>qke hc i1 lt (qaE (by omega)) (i3 fun hm=>h (List.mem_cons_of_mem _ hm)),fun hm=>?_⟩
   rcases List.mem_cons.1 hm with h | h
   ·cases h
   ·obtain⟨j,r⟩:=i4 h
    exact⟨j,qke hc i1 lt (qaE (by omega)) r⟩
theorem qie {g:List Bool} (hn:g.length≤1000000):Fn 233 1 [.ls 0 g.length,.pv (.bool true)] [(0,0,zrB g)] (.pv (.bool (g.contains true))) 0 []:=by
 obtain⟨h1,h2⟩:=qdF hn g.length 0 (by omega)
 rw[List.drop_zero] at h1 h2
 by_cases hm:true∈g
 ·obtain⟨j,r⟩:=h2 hm
  have e:g.contains true=true:=by simpa using hm
  rw[e]
  exact qz9 r (by simp)
 ·have e:g.contains true=false:=by simpa using hm
  rw[e]
  exact qD0 (h1 hm)
theorem qhq (hn:b.length≤1000000) (hf:f.length≤1000000):Fn 208 3 [slA u b f] (slP u b f) (.pv (.bool (qeG b f))) 0 []:=by
 have r0:=qfy (u:=u) (f:=f) hn
 obtain⟨h1,h2⟩:=qdg (u:=u) (b:=b) hf f.length 0 (b.map not) (by omega) (by simp)
 rw[List.drop_zero] at h1 h2
 unfold qeG
 split
 ·rename_i g hg
  have hl:g.length=b.length:=by rw[qei hg,List.length_map]
  have hc:=qie (g:=g) (by omega)
  simp only[zrB] at hc
  rw[hl] at hc
  cases e:g.contains true
  ·rw[e] at hc
   exact qDc (by omega) (by omega) r0 (h1 g hg) hl hc
  ·rw[e] at hc
   exact qtR (by omega) (by omega) r0 (h1 g hg) hl hc
 ·rename_i hg
  obtain⟨j,g',r⟩:=h2 hg
  exact qq3 (by omega) (by omega) r0 r (by simp)
theorem qfI (hf:f.length≤1000000):Fn 166 3 [slA u b f] (slP u b f) (.pv (iV (if qcI u b f=true then 0 else 8))) 0 []:=by
 by_cases h1:1≤u.length
 ·by_cases h2:u.length≤200
  ·have hz:Pure Tryz.prog 145 #[iV (u.length:Int)] (.bool true):=qr3 (by simp;omega) (by simp;omega)
   by_cases h3:b.length=u.length
   ·have hl:(!((b.length:Int)==(u.length:Int)))=false:=by simp;omega
    have hu:=qjg (f:=f) h3 (by omega)
    have hfr:=qhq (u:=u) (b:=b) (f:=f) (by omega) hf
    cases e1:qw2 u b
    ·rw[e1] at hu
     rw[if_neg (by unfold qcI;simp[e1])]
     exact qyH hz hl hu
    ·rw[e1] at hu
     cases e2:qeG b f
     ·rw[e2] at hfr
      rw[if_neg (by unfold qcI;simp[e2])]
      exact qwD hz hl hu hfr
     ·rw[e2] at hfr
      rw[if_pos (by unfold qcI;simp[h1,h2,h3,e1,e2])]
      exact qyC hz hl hu hfr
   ·rw[if_neg (by unfold qcI;simp[h3])]
    exact qzv hz (by simp;omega)
  ·rw[if_neg (by unfold qcI;simp[h2])]
   exact qmR (qzG (by simp;omega) (by simp;omega))
 ·rw[if_neg (by unfold qcI;simp[h1])]
  exact qmR (qzH (by simp;omega))
end
end Go.Proofs.YtkjaanhddkkodaaGreat

namespace Go.Proofs.YtkjaanhddkkodaaGreat
set_option maxRecDepth 100000
open Go.RowKit
theorem qhW (n:Nat):some (SV.row 3 1 n (qc3 [iV 0] n))=some (SV.row 3 1 n (ziV (List.replicate n 0))):=by rw[qjq]
theorem qvV (n:Nat):SV.ls 2 (0+n)=(SV.ls 1 n).ren (qaK [(1,2)]):=by rw[Nat.zero_add];rfl
theorem qiN (e:TypeId) (n:Nat) (xs:List Value):some (SV.row e 1 (0+n) ([]++xs))=some (SV.row e 1 n xs):=by rw[Nat.zero_add,List.nil_append]
theorem qBl (fr:List Int):SV.ls 5 (0+fr.length+1)=(SV.ls 3 (fr.length+1)).ren (qaK [(3,5)]):=by rw[Nat.zero_add];rfl
theorem qq2 (fr:List Int) (x:Int):some (SV.row 3 1 (0+fr.length+1) ([]++ziV fr++[iV x]))=some (SV.row 3 1 (fr.length+1) (ziV (fr++[x]))):=by rw[Nat.zero_add,List.nil_append,qbs];rfl
abbrev qBZ (g:List Int) (n:Nat):HpL:=[(0,0,.pv (.slice none 0 0)),(0,1,.pv (.slice none 0 0)),(0,2,.pv (.slice none 0 0)),(4,0,.ls 1 n),(4,1,.ls 2 n),(4,2,.ls 3 n),(1,0,.row 3 1 n (ziV (List.replicate n 0))),(2,0,.row 4 1 n (zbV (List.replicate n false))),(3,0,.row 3 1 n (ziV g))]
theorem qsP {g:List Int} {k n:Nat} (hg:k<g.length) (hin:0≤(k:Int)∧(k:Int)<(n:Int)) (hlt:decide ((k:Int)<(n:Int))=true) (h1:iV (IntKind.i64.wrap ((n:Int)-1))=iV ((n:Int)-1)) (h2:iV (IntKind.i64.wrap ((n:Int)-1-(k:Int)))=iV ((n:Int)-1-(k:Int))) (hs:iV (IntKind.i64.wrap ((k:Int)+1))=iV (((k+1:Nat):Int))) {e:Exit} {tm2:TmL} {hp2:HpL}
 (r:Rl 0 0 98 0 31 5 ([(0,.pv (iV (n:Int))),(2,.pp 0 0),(4,.pp 4 0),(17,.pv (iV (n:Int))),(18,.pv (iV ((k+1:Nat):Int)))]) ([(0,0,.pv (.slice none 0 0)),(0,1,.pv (.slice none 0 0)),(0,2,.pv (.slice none 0 0)),(4,0,.ls 1 n),(4,1,.ls 2 n),(4,2,.ls 3 n),(1,0,.row 3 1 n (ziV (List.replicate n 0))),(2,0,.row 4 1 n (zbV (List.replicate n false))),(3,0,.row 3 1 n (ziV (g.set k ((n:Int)-1-(k:Int)))))]) e tm2 hp2):Rl 0 0 98 0 31 5 ([(0,.pv (iV (n:Int))),(2,.pp 0 0),(4,.pp 4 0),(17,.pv (iV (n:Int))),(18,.pv (iV (k:Int)))]) (qBZ g n) e tm2 hp2:=
 RunsL.next [] 300 [.t true,Re h1,Re h2,.w (ziV (g.set k ((n:Int)-1-(k:Int)))),Re hs]
  (Ro (Ai hlt (Ai h1 (Ai h2 (Ai hin (Ai (qh1 g k ((n:Int)-1-(k:Int)) hg) (Ai (qbD g k hg) (Ai hs tI)))))))) r
theorem qya {g:List Int} {k n:Nat} (hge:decide ((k:Int)<(n:Int))=false):Rl 0 0 98 0 31 5 ([(0,.pv (iV (n:Int))),(2,.pp 0 0),(4,.pp 4 0),(17,.pv (iV (n:Int))),(18,.pv (iV (k:Int)))]) (qBZ g n) (.exit 0) ([(2,.pp 0 0),(4,.pp 4 0)]) (qBZ g n):=
 RunsL.stop [] 300 [.t false] (fun h=>by cases h)
  (Ro (Ai hge tI))
theorem qD8 {g:List Int} {n:Nat} (hz:Pure Tryz.prog 145 #[iV (n:Int)] (.bool true)) (n0:0≤(n:Int)) (n1:(n:Int)≤1000000) (r0:Rl 0 0 98 0 31 5 ([(0,.pv (iV (n:Int))),(2,.pp 0 0),(4,.pp 4 0),(17,.pv (iV (n:Int))),(18,.pv (iV ((0:Nat):Int)))]) ([(0,0,.pv (.slice none 0 0)),(0,1,.pv (.slice none 0 0)),(0,2,.pv (.slice none 0 0)),(4,0,.ls 1 n),(4,1,.ls 2 n),(4,2,.ls 3 n),(1,0,.row 3 1 n (ziV (List.replicate n 0))),(2,0,.row 4 1 n (zbV (List.replicate n false))),(3,0,.row 3 1 n (ziV (List.replicate n 0)))]) (.exit 0) ([(2,.pp 0 0),(4,.pp 4 0)]) (qBZ g n)) :
 Fn 98 0 [.pv (iV (n:Int))] [] (.tu [.ag [.ls 0 n,.ls 1 n,.ls 2 n],.one (.pv (iV 0))]) 3 [(0,0,.row 3 1 n (ziV (List.replicate n 0))),(1,0,.row 4 1 n (zbV (List.replicate n false))),(2,0,.row 3 1 n (ziV g))]:=
 Fz [(0,1),(1,2),(2,3)] [Rf hz,.k,.md,Lf r0]
  (qaC (qaK [(0,1),(1,2),(2,3)]) [(0,0,.row 3 1 n (ziV (List.replicate n 0))),(1,0,.row 4 1 n (zbV (List.replicate n false))),(2,0,.row 3 1 n (ziV g))]) (Ai hz (Ai n0 (Ai (Eq.refl (n:Int)) (Ai n1 (Ai n0 (Ai (Eq.refl (n:Int)) (Ai n1 (Ai n0 (Ai (Eq.refl (n:Int)) (Ai n1 (Ai (Lt r0 []) (Ai (Ai (Er (SV.pv (.slice none 0 0))) (Ai (Er (SV.pv (.slice none 0 0))) (Ai (Er (SV.pv (.slice none 0 0))) (Ai (Er (SV.ls 1 n)) (Ai (Er (SV.ls 2 n)) (Ai (Er (SV.ls 3 n)) (Ai (qhW n) (Ai (qcw n) (Ai (qhW n) tI))))))))) (Ai r0 tI)))))))))))))
theorem qpI {l:List Int} (h0:0<l.length) (hn:0+l.length≤1000000) :
 Fn 151 1 [.ls 0 l.length] [(0,0,zrI l)] (.ls 1 l.length) 1 [(1,0,zrI l)]:=
 Fx [(1,2)] [.t false]
  (qvV l.length) (Ai (qiN 3 l.length (ziV l)) tI) (Ai h0 (Ai hn tI))
theorem qDu {ad:Addr} {c:Nat} :
 Fn 151 0 [.pv (.slice (some ad) 0 c)] [] (.ls 0 0) 1 [(0,0,.row 3 1 0 [])]:=
 Fz [(0,1)] [.k]
  (qaC (qaK [(0,1)]) [(0,0,.row 3 1 0 [])]) (Ai (Nat.zero_le _:0+0≤1000000) tI)
theorem qti {c:Nat}:Pure Tryz.prog 151 #[.slice none 0 c] (.slice none 0 0):=
 qaz (args:=[.slice none 0 c]) 200 [] (Ai rfl tI) (by kernel_rfl)
theorem qqu {l:List Int} (h0:0<l.length) (hn:0+l.length≤1000000) :
 Fn 242 1 [.ls 0 l.length] [(0,0,zrI l)] (.ls 1 l.length) 1 [(1,0,zrI l)]:=
 Fx [(1,2)] [.t false]
  (qvV l.length) (Ai (qiN 3 l.length (ziV l)) tI) (Ai h0 (Ai hn tI))
theorem qDW {ad:Addr} {c:Nat} :
 Fn 242 0 [.pv (.slice (some ad) 0 c)] [] (.ls 0 0) 1 [(0,0,.row 3 1 0 [])]:=
 Fz [(0,1)] [.k]
  (qaC (qaK [(0,1)]) [(0,0,.row 3 1 0 [])]) (Ai (Nat.zero_le _:0+0≤1000000) tI)
theorem qsY {c:Nat}:Pure Tryz.prog 242 #[.slice none 0 c] (.slice none 0 0):=
 qaz (args:=[.slice none 0 c]) 200 [] (Ai rfl tI) (by kernel_rfl)
theorem qqQ {l:List Bool} (h0:0<l.length) (hn:0+l.length≤1000000) :
 Fn 243 1 [.ls 0 l.length] [(0,0,zrB l)] (.ls 1 l.length) 1 [(1,0,zrB l)]:=
 Fx [(1,2)] [.t false]
  (qvV l.length) (Ai (qiN 4 l.length (zbV l)) tI) (Ai h0 (Ai hn tI))
theorem qEA {ad:Addr} {c:Nat} :
 Fn 243 0 [.pv (.slice (some ad) 0 c)] [] (.ls 0 0) 1 [(0,0,.row 4 1 0 [])]:=
 Fz [(0,1)] [.k]
  (qaC (qaK [(0,1)]) [(0,0,.row 4 1 0 [])]) (Ai (Nat.zero_le _:0+0≤1000000) tI)
theorem qvc {c:Nat}:Pure Tryz.prog 243 #[.slice none 0 c] (.slice none 0 0):=
 qaz (args:=[.slice none 0 c]) 200 [] (Ai rfl tI) (by kernel_rfl)
theorem wti {l:List Int} {x y:Int} (hin:0≤x∧x<(l.length:Int)) (hl:x.toNat<l.length) (hc:Fn 242 1 [.ls 0 l.length] [(0,0,zrI l)] (.ls 1 l.length) 1 [(1,0,zrI l)]) :
 Fn 225 1 [.ls 0 l.length,.pv (iV x),.pv (iV y)] [(0,0,zrI l)] (.ls 1 l.length) 1 [(1,0,.row 3 1 l.length (ziV (l.set x.toNat y)))]:=
 Fz [(1,1)] [Cf hc [0],.w (ziV (l.set x.toNat y))]
  (qaC (qaK [(1,1)]) [(1,0,.row 3 1 l.length (ziV (l.set x.toNat y)))]) (Co hc [0] 1 (Ai hin (Ai (qh1 l x.toNat y hl) (Ai (qbD l x.toNat hl) tI))))
theorem qEY {l:List Bool} {x:Int} (hin:0≤x∧x<(l.length:Int)) (hl:x.toNat<l.length) (hc:Fn 243 1 [.ls 0 l.length] [(0,0,zrB l)] (.ls 1 l.length) 1 [(1,0,zrB l)]) :
 Fn 226 1 [.ls 0 l.length,.pv (iV x),.pv (.bool true)] [(0,0,zrB l)] (.ls 1 l.length) 1 [(1,0,.row 4 1 l.length (zbV (l.set x.toNat true)))]:=
 Fz [(1,1)] [Cf hc [0],.w (zbV (l.set x.toNat true))]
  (qaC (qaK [(1,1)]) [(1,0,.row 4 1 l.length (zbV (l.set x.toNat true)))]) (Co hc [0] 1 (Ai hin (Ai (qwN l x.toNat true hl) (Ai (qf8 l x.toNat hl) tI))))
theorem qC4 {l:List Bool} {x:Int} (hin:0≤x∧x<(l.length:Int)) (hl:x.toNat<l.length) (hc:Fn 243 1 [.ls 0 l.length] [(0,0,zrB l)] (.ls 1 l.length) 1 [(1,0,zrB l)]) :
 Fn 226 1 [.ls 0 l.length,.pv (iV x),.pv (.bool false)] [(0,0,zrB l)] (.ls 1 l.length) 1 [(1,0,.row 4 1 l.length (zbV (l.set x.toNat false)))]:=
 Fz [(1,1)] [Cf hc [0],.w (zbV (l.set x.toNat false))]
  (qaC (qaK [(1,1)]) [(1,0,.row 4 1 l.length (zbV (l.set x.toNat false)))]) (Co hc [0] 1 (Ai hin (Ai (qwN l x.toNat false hl) (Ai (qf8 l x.toNat hl) tI))))
theorem qCT {z:Int} (h0:decide (z<0)=false) (hs:iV (IntKind.i64.wrap (z-0))=iV (z)) (hg:decide (z>0)=true) (a0:0≤z) (a1:z≤1000000) :
 Fn 259 0 [.pv (.slice none 0 0),.pv (iV (z))] [] (.ls 0 0) 1 [(0,0,.row 3 1 0 [])]:=
 Fz [(0,1)] [.t false,.k,Re hs,.t true,.w []]
  (qaC (qaK [(0,1)]) [(0,0,.row 3 1 0 [])]) (Ai h0 (Ai hs (Ai hg (Ai a0 (Ai a1 (Ai (Int.le_refl (0:Int)) (Ai (Nat.zero_le z.toNat) tI)))))))
theorem qFV {fr:List Int} {x:Int} (q1:iV (IntKind.i64.wrap ((0:Int)+(fr.length:Int)))=iV (fr.length:Int)) (n1:decide ((fr.length:Int)<0)=false) (q2:iV (IntKind.i64.wrap ((fr.length:Int)+1))=iV (((fr.length+1:Nat):Int))) (n2:decide (((fr.length+1:Nat):Int)<0)=false) (hgr:Fn 259 0 [.pv (.slice none 0 0),.pv (iV (((fr.length+1:Nat):Int)))] [] (.ls 0 0) 1 [(0,0,.row 3 1 0 [])]) (a1:0+fr.length≤1000000) (a2:0+fr.length+1≤1000000) :
 Fn 245 3 [.ps 2 0 2 2] [(2,0,.ls 0 fr.length),(2,1,.ps 1 0 1 1),(1,0,.pv (iV x)),(0,0,zrI fr)] (.ls 3 (fr.length+1)) 1 [(3,0,.row 3 1 (fr.length+1) (ziV (fr++[x])))]:=
 Fx [(3,5)] [.k,Re q1,.t false,.k,.k,Re q2,.t false,.k,.k,Cf hgr [],.k,.k,.k,.k,.k]
  (qBl fr) (Ai (qq2 fr x) tI) (Ai q1 (Ai n1 (Ai q2 (Ai n2 (Co hgr [] 3 (Ai a1 (Ai a2 tI)))))))
abbrev qih (b:List Bool) (fr:List Int) (u:List Int):HpL:=[(0,0,zrI u),(1,0,zrB b),(2,0,zrI fr)]
theorem qy8 {u fr:List Int} {b:List Bool} {hi hw:Int} (hh:Fn 231 3 [.ag [.ls 0 u.length,.ls 1 b.length,.ls 2 fr.length],.pv (iV (hi))] (qih b fr u) (.pv (.bool false)) 0 []) :
 Fn 220 3 [.ag [.ls 0 u.length,.ls 1 b.length,.ls 2 fr.length],.pv (.agg #[iV hi,iV hw])] (qih b fr u) (.pv (.bool false)) 0 []:=
 Fz [] [Cf hh [0,1,2]]
  tI (Co hh [0,1,2] 5 tI)
abbrev qEZ (b:List Bool) (fr:List Int) (hi:Int) (u:List Int):Prop:=Fn 231 3 [.ag [.ls 0 u.length,.ls 1 b.length,.ls 2 fr.length],.pv (iV (hi))] (qih b fr u) (.pv (.bool true)) 0 []
theorem qvS {u fr:List Int} {b:List Bool} {hi hw:Int} (hh:qEZ b fr hi u) (hib:0≤hi∧hi<(b.length:Int)) (hb:b[hi.toNat]?=some false) :
 Fn 220 3 [.ag [.ls 0 u.length,.ls 1 b.length,.ls 2 fr.length],.pv (.agg #[iV hi,iV hw])] (qih b fr u) (.pv (.bool false)) 0 []:=
 Fz [] [Cf hh [0,1,2],.r (.bool false)]
  tI (Co hh [0,1,2] 5 (Ai hib (Ai (qfC hb) tI)))
theorem quv {u fr:List Int} {b:List Bool} {y hi hw:Int} (hh:qEZ b fr hi u) (hib:0≤hi∧hi<(b.length:Int)) (hb:b[hi.toNat]?=some true) (hiu:0≤hi∧hi<(u.length:Int)) (hue:u[hi.toNat]?=some y) (he:(y==hw)=true) :
 Fn 220 3 [.ag [.ls 0 u.length,.ls 1 b.length,.ls 2 fr.length],.pv (.agg #[iV hi,iV hw])] (qih b fr u) (.pv (.bool true)) 0 []:=
 Fz [] [Cf hh [0,1,2],.r (.bool true),.r (iV y),.t true]
  tI (Co hh [0,1,2] 5 (Ai hib (Ai (qfC hb) (Ai hiu (Ai (qfk hue) (Ai he tI))))))
theorem qq8 {u fr:List Int} {b:List Bool} {y hi hw:Int} (hh:qEZ b fr hi u) (hib:0≤hi∧hi<(b.length:Int)) (hb:b[hi.toNat]?=some true) (hiu:0≤hi∧hi<(u.length:Int)) (hue:u[hi.toNat]?=some y) (he:(y==hw)=false) :
 Fn 220 3 [.ag [.ls 0 u.length,.ls 1 b.length,.ls 2 fr.length],.pv (.agg #[iV hi,iV hw])] (qih b fr u) (.pv (.bool false)) 0 []:=
 Fz [] [Cf hh [0,1,2],.r (.bool true),.r (iV y),.t false]
  tI (Co hh [0,1,2] 5 (Ai hib (Ai (qfC hb) (Ai hiu (Ai (qfk hue) (Ai he tI))))))
abbrev qwW (b:List Bool) (fr:List Int) (u:List Int):Prop:=Fn 166 3 [.ag [.ls 0 u.length,.ls 1 b.length,.ls 2 fr.length]] (qih b fr u) (.pv (iV (0))) 0 []
theorem qoZ {u fr:List Int} {b:List Bool} {hi hw:Int} (hc:qwW b fr u) (hl:Fn 220 3 [.ag [.ls 0 u.length,.ls 1 b.length,.ls 2 fr.length],.pv (.agg #[iV hi,iV hw])] (qih b fr u) (.pv (.bool true)) 0 []) :
 Fn 196 3 [.ag [.ls 0 u.length,.ls 1 b.length,.ls 2 fr.length],.pv (.agg #[iV hi,iV hw])] (qih b fr u) (.pv (.tuple #[.bool true,iV 0])) 0 []:=
 Fz [] [Cf hc [0,1,2],.k,Cf hl [0,1,2]]
  tI (Co hc [0,1,2] 5 (Co hl [0,1,2] 5 tI))
theorem qnT {u fr:List Int} {b:List Bool} {hi hw:Int} (hc:qwW b fr u) (hl:Fn 220 3 [.ag [.ls 0 u.length,.ls 1 b.length,.ls 2 fr.length],.pv (.agg #[iV hi,iV hw])] (qih b fr u) (.pv (.bool false)) 0 []) :
 Fn 196 3 [.ag [.ls 0 u.length,.ls 1 b.length,.ls 2 fr.length],.pv (.agg #[iV hi,iV hw])] (qih b fr u) (.pv (.tuple #[.bool false,iV 0])) 0 []:=
 Fz [] [Cf hc [0,1,2],.k,Cf hl [0,1,2]]
  tI (Co hc [0,1,2] 5 (Co hl [0,1,2] 5 tI))
theorem qvm {u fr:List Int} {b:List Bool} (hc:qwW b fr u) (hl:iV (IntKind.i64.wrap ((fr.length:Int)-1))=iV (-1)) :
 Fn 200 3 [.ag [.ls 0 u.length,.ls 1 b.length,.ls 2 fr.length]] (qih b fr u) (.pv (.tuple #[.agg #[.slice none 0 0,.slice none 0 0,.slice none 0 0],.agg #[iV 0,iV 0],iV 18])) 0 []:=
 Fz [] [Cf hc [0,1,2],.k,Re hl,.k]
  tI (Co hc [0,1,2] 6 (Ai hl tI))
theorem qt9 {u fr:List Int} {b:List Bool} {x y:Int} {m:Nat} (hc:qwW b fr u) (hl:iV (IntKind.i64.wrap ((fr.length:Int)-1))=iV (m:Int)) (h0:decide ((m:Int)<0)=false) (hm:0≤(m:Int)∧(m:Int)<(fr.length:Int)) (hf:fr[m]?=some x) (hx:0≤x∧x<(u.length:Int)) (hu:u[x.toNat]?=some y) (hy:(y==1000000)=true) :
 Fn 200 3 [.ag [.ls 0 u.length,.ls 1 b.length,.ls 2 fr.length]] (qih b fr u) (.pv (.tuple #[.agg #[.slice none 0 0,.slice none 0 0,.slice none 0 0],.agg #[iV 0,iV 0],iV 18])) 0 []:=
 Fz [] [Cf hc [0,1,2],.k,Re hl,.t false,.r (iV x),.r (iV y),.t true]
  tI (Co hc [0,1,2] 6 (Ai hl (Ai h0 (Ai hm (Ai (qbe hf) (Ai hx (Ai (qfk hu) (Ai hy tI))))))))
theorem qEG {u fr:List Int} {b:List Bool} {x y z:Int} {m:Nat} (hc:qwW b fr u) (hl:iV (IntKind.i64.wrap ((fr.length:Int)-1))=iV (m:Int)) (h0:decide ((m:Int)<0)=false) (hm:0≤(m:Int)∧(m:Int)<(fr.length:Int)) (hf:fr[m]?=some x) (hx:0≤x∧x<(u.length:Int)) (hu:u[x.toNat]?=some y) (hy:(y==1000000)=false) (h1:iV (IntKind.i64.wrap (y+1))=iV (z)) (w1:Fn 225 1 [.ls 0 u.length,.pv (iV x),.pv (iV z)] [(0,0,zrI u)] (.ls 1 u.length) 1 [(1,0,.row 3 1 u.length (ziV (u.set x.toNat z)))]) (w2:Fn 226 1 [.ls 0 b.length,.pv (iV x),.pv (.bool true)] [(0,0,zrB b)] (.ls 1 b.length) 1 [(1,0,.row 4 1 b.length (zbV (b.set x.toNat true)))]) (hml:m≤fr.length) (w3:Fn 151 1 [.lq 0 1 0 m] [(0,0,zrI fr)] (.ls 1 m) 1 [(1,0,.row 3 1 m (ziV (fr.take m)))]) :
 Fn 200 3 [.ag [.ls 0 u.length,.ls 1 b.length,.ls 2 fr.length]] (qih b fr u) (.tu [.ag [.ls 3 u.length,.ls 4 b.length,.ls 5 m],.one (.pv (.agg #[iV x,iV z])),.one (.pv (iV 0))]) 3 [(3,0,.row 3 1 u.length (ziV (u.set x.toNat z))),(4,0,.row 4 1 b.length (zbV (b.set x.toNat true))),(5,0,.row 3 1 m (ziV (fr.take m)))]:=
 Fz [(3,7),(4,8),(5,9)] [Cf hc [0,1,2],.k,Re hl,.t false,.r (iV x),.r (iV y),.t false,.r (iV x),.r (iV x),.r (iV y),Re h1,.md,Cf w1 [0],Cf w2 [1],.k,Cf w3 [2]]
  (qaC (qaK [(3,7),(4,8),(5,9)]) [(3,0,.row 3 1 u.length (ziV (u.set x.toNat z))),(4,0,.row 4 1 b.length (zbV (b.set x.toNat true))),(5,0,.row 3 1 m (ziV (fr.take m)))]) (Co hc [0,1,2] 6 (Ai hl (Ai h0 (Ai hm (Ai (qbe hf) (Ai hx (Ai (qfk hu) (Ai hy (Ai hm (Ai (qbe hf) (Ai hm (Ai (qbe hf) (Ai hx (Ai (qfk hu) (Ai h1 (Co w1 [0] 7 (Co w2 [1] 8 (Ai tI (Ai (Int.natCast_nonneg m) (Ai (Nat.zero_le m) (Ai hml (Co w3 [2] 9 tI))))))))))))))))))))))
theorem qCx {u fr:List Int} {b:List Bool} {hi hw:Int} (hc:qwW b fr u) (hl:Fn 220 3 [.ag [.ls 0 u.length,.ls 1 b.length,.ls 2 fr.length],.pv (.agg #[iV hi,iV hw])] (qih b fr u) (.pv (.bool true)) 0 []) (w1:Fn 151 1 [.ls 0 u.length] [(0,0,zrI u)] (.ls 1 u.length) 1 [(1,0,zrI u)]) (w2:Fn 226 1 [.ls 0 b.length,.pv (iV hi),.pv (.bool false)] [(0,0,zrB b)] (.ls 1 b.length) 1 [(1,0,.row 4 1 b.length (zbV (b.set hi.toNat false)))]) (w3:Fn 245 3 [.ps 2 0 2 2] [(2,0,.ls 0 fr.length),(2,1,.ps 1 0 1 1),(1,0,.pv (iV hi)),(0,0,zrI fr)] (.ls 3 (fr.length+1)) 1 [(3,0,.row 3 1 (fr.length+1) (ziV (fr++[hi])))]) :
 Fn 229 3 [.ag [.ls 0 u.length,.ls 1 b.length,.ls 2 fr.length],.pv (.agg #[iV hi,iV hw])] (qih b fr u) (.tu [.ag [.ls 3 u.length,.ls 4 b.length,.ls 5 (fr.length+1)],.one (.pv (iV 0))]) 3 [(3,0,.row 3 1 u.length (ziV (u))),(4,0,.row 4 1 b.length (zbV (b.set hi.toNat false))),(5,0,.row 3 1 (fr.length+1) (ziV (fr++[hi])))]:=
 Fz [(3,6),(4,7),(5,10)] [Cf hc [0,1,2],.k,Cf hl [0,1,2],.k,.md,Cf w1 [0],Cf w2 [1],Cf w3 [2,8,9]]
  (qaC (qaK [(3,6),(4,7),(5,10)]) [(3,0,.row 3 1 u.length (ziV (u))),(4,0,.row 4 1 b.length (zbV (b.set hi.toNat false))),(5,0,.row 3 1 (fr.length+1) (ziV (fr++[hi])))]) (Co hc [0,1,2] 6 (Co hl [0,1,2] 6 (Co w1 [0] 6 (Co w2 [1] 7 (Co w3 [2,8,9] 10 tI)))))
end Go.Proofs.YtkjaanhddkkodaaGreat
