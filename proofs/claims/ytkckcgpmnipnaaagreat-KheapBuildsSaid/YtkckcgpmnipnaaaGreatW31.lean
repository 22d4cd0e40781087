/-
  Joined: La, Zc, Zd. Conditions: none.
-/
import Derived.Test.YtkckcgpmnipnaaaGreatW27
import Derived.Test.YtkckcgpmnipnaaaGreatW30
import Derived.Test.YtkckcgpmnipnaaaGreatW21
import Derived.Test.YtkckcgpmnipnaaaGreatW25
namespace Go.Proofs.YtkckcgpmnipnaaaGreat
set_option maxRecDepth 100000
open Go.RowKit
theorem qGd {n d tn td m k:Int} (hd:0<d) (ht:0<td) (hk:0<k) (h1:m*d≤n*k) (h2:n*td≤tn*d):m*td≤tn*k:=by
 have e1:=Int.mul_le_mul_of_nonneg_right h1 (Int.le_of_lt ht)
 have e2:=Int.mul_le_mul_of_nonneg_right h2 (Int.le_of_lt hk)
 have e3:n*k*td=n*td*k:=Int.mul_right_comm n k td
 have e4:m*d*td=m*td*d:=Int.mul_right_comm m d td
 have e5:tn*d*k=tn*k*d:=Int.mul_right_comm tn d k
 exact Int.le_of_mul_le_mul_right (a:=d) (by omega) hd
abbrev ldB (q p:Pt) (n d:Int):Bool:=qbp (q.a*d+q.b*n) (p.a*d+p.b*n) q.b p.b q.id p.id
structure FailIs (p q:Pt) (n d m k:Int) (s:Bool):Prop where
 ok:s=true→okB m k=true∧I64 m∧I64 k∧n*k≤m*d
 no:s=false→m=0∧k=0
 then_:s=true→ldB q p m k=true
 before:∀ tn td,okB tn td=true→n*td≤tn*d→(s=true→tn*k<m*td)→ldB q p tn td=false
abbrev qtF (p q:Pt) (n d m k:Int) (s:Bool):Prop:=Pure Tryz.prog 266 #[ptV p,ptV q,qaa n d] (.tuple #[qaa m k,.bool s,iV 0])
abbrev qsU (p q:Pt) (n d m k:Int) (s:Bool):Prop:=Pure Tryz.prog 188 #[ptV p,ptV q,qaa n d] (.tuple #[qaa m k,.bool s])
theorem qhp {p q:Pt} {n d:Int} (hn:I64 n) (hd:I64 d) (h3:okB n d=true) (hl:ldB q p n d=true):FailIs p q n d n d true where
 ok:=fun _=>⟨h3,hn,hd,Int.le_refl _⟩
 no:=fun h=>by cases h
 then_:=fun _=>hl
 before:=fun tn td _ h1 h2=>by have:=h2 rfl;omega
theorem qwv {p q:Pt} {n d:Int} (hn:I64 n) (hd:I64 d) (hp:qgM p=true) (hq:qgM q=true) (h3:okB n d=true) (h4:p.id≠q.id):∃ m k s,qtF p q n d m k s∧qsU p q n d m k s∧FailIs p q n d m k s:=by
 obtain⟨pi,pa,pb⟩:=p
 obtain⟨qi,qa,qb⟩:=q
 simp only at h4
 have h1:okP pi pa pb=true:=hp
 have h2:okP qi qa qb=true:=hq
 have c1:=qbP h1
 have c2:=qbP h2
 have c3:=qcd hn hd h3
 have c4:=qlG (pa:=pa) (pb:=pb) (qa:=qa) (qb:=qb) h4
 have ld:=qgQ (pi:=qi) (qi:=pi) (n:=n) (d:=d) hn hd h2 h1
 have d0:0<d:=by have:=qcV h3;omega
 have now:=fun (l:Pure Tryz.prog 90 #[qab qi qa qb,qab pi pa pb,qaa n d] (.bool true))=>qi4 (pi:=pi) (pa:=pa) (pb:=pb) l
 by_cases hb:qb=pb
 ·subst hb
  have no:=fun (l:Pure Tryz.prog 90 #[qab qi qa qb,qab pi pa qb,qaa n d] (.bool false))=>qfZ (pi:=pi) (pa:=pa) (pb:=qb) l (df (by omega))
  have sm:∀ tn td:Int,okB tn td=true→ldB ⟨qi,qa,qb⟩ ⟨pi,pa,qb⟩ tn td=qbp qa pa qb qb qi pi:=fun tn td h=>qgb (by have:=qcV h;omega)
  have none:qbp qa pa qb qb qi pi=false→FailIs ⟨pi,pa,qb⟩ ⟨qi,qa,qb⟩ n d 0 0 false:=fun h=>⟨fun h=>(by cases h),fun _=>⟨rfl,rfl⟩,fun h=>(by cases h),fun tn td ht _ _=>by rw[sm tn td ht];exact h⟩
  have nw:qbp qa pa qb qb qi pi=true→FailIs ⟨pi,pa,qb⟩ ⟨qi,qa,qb⟩ n d n d true:=fun h=>qhp hn hd h3 (by rw[sm n d h3];exact h)
  rw[qgb d0] at ld
  by_cases ha:qa=pa
  ·subst ha
   by_cases hi:qi<pi
   ·have e:qbp qa qa qb qb qi pi=true:=qbZ (by omega)
    rw[e] at ld
    exact⟨n,d,true,qrA c1 c2 c3 c4 (by simp) (dt hi),now ld,nw e⟩
   ·have e:qbp qa qa qb qb qi pi=false:=qbU (by omega)
    rw[e] at ld
    exact⟨0,0,false,qtb c1 c2 c3 c4 (by simp) (df hi) (df (Int.lt_irrefl _)),no ld,none e⟩
  ·by_cases hg:qa>pa
   ·have e:qbp qa pa qb qb qi pi=true:=qbZ (by omega)
    rw[e] at ld
    exact⟨n,d,true,qr2 c1 c2 c3 c4 (by simp[ha]) (by simp) (dt hg),now ld,nw e⟩
   ·have e:qbp qa pa qb qb qi pi=false:=qbU (by omega)
    rw[e] at ld
    exact⟨0,0,false,qsv c1 c2 c3 c4 (by simp[ha]) (by simp) (df hg) (df (Int.lt_irrefl _)),no ld,none e⟩
 ·obtain⟨m,k,k1,k2,k3,k4,k5,k6⟩:=qhU h2 h1 hb
  have k0:0<k:=by have:=qcV k1;omega
  have cc:=qoc hn hd k2 k3 h3 k1
  have lt:∀ tn td:Int,ldB ⟨qi,qa,qb⟩ ⟨pi,pa,pb⟩ tn td=(decide (qb>pb)==decide ((tn*k-m*td).sign≥0)):=fun tn td=>qgx k0 k4 hb
  have ld0:=lt n d
  rw[qgx k0 k4 hb] at ld
  have w:(qa==pa&&(qb==pb&&true))=false:=by simp[hb]
  have bb:(qb==pb)=false:=by simp[hb]
  by_cases g:qb>pb<;>by_cases l:(n*k-m*d).sign≥0
  ·rw[dt g,dt l] at ld ld0
   exact⟨n,d,true,qoC c1 c2 c3 c4 w bb k5 cc (dt l) (dt g),now ld,qhp hn hd h3 ld0⟩
  ·rw[dt g,df l] at ld
   have mt:=qz3 h1 h2 (Ne.symm hb) k1 k2 k3 (by
    have e1:m*(pb-qb) = -(m*(qb-pb)):=by rw[← Int.mul_neg];congr 1;omega
    have e2:(qa-pa)*k = -((pa-qa)*k):=by rw[← Int.neg_mul];congr 1;omega
    rw[e1,e2,k4])
   refine⟨m,k,true,qmY c1 c2 c3 c4 w bb k5 cc (df l) (dt g) k6,qiG ld (dt g) mt,fun _=>⟨k1,k2,k3,?_⟩,fun h=>(by cases h),fun _=>?_,fun tn td _ _ h=>?_⟩
   ·have:¬ 0≤n*k-m*d:=fun e=>l ((qe9 _).2 e)
    omega
   ·rw[lt m k,dt g,Int.sub_self];rfl
   ·have h':=h rfl
    rw[lt tn td,dt g,df (fun e=>by have:=(qe9 (tn*k-m*td)).1 e;omega)];rfl
  ·rw[df g,dt l] at ld
   have l':=(qe9 (n*k-m*d)).1 l
   refine⟨0,0,false,qnC c1 c2 c3 c4 w bb k5 cc (dt l) (df g),qfZ ld (df g),fun h=>(by cases h),fun _=>⟨rfl,rfl⟩,fun h=>(by cases h),fun tn td ht h _=>?_⟩
   have t0:0<td:=by have:=qcV ht;omega
   have:=qGd d0 t0 k0 (show m*d≤n*k by omega) h
   rw[lt tn td,df g,dt ((qe9 _).2 (by omega))];rfl
  ·rw[df g,df l] at ld ld0
   exact⟨n,d,true,qoN c1 c2 c3 c4 w bb k5 cc (df l) (df g),now ld,qhp hn hd h3 ld0⟩
noncomputable def qaq (s:List Pt) (n d:Int) (c:Pt):Int×Int×Bool:=open Classical in if h:∃ r:Int×Int×Bool,qtF (qcS s c.b) (qcS s c.a) n d r.1 r.2.1 r.2.2∧qsU (qcS s c.b) (qcS s c.a) n d r.1 r.2.1 r.2.2∧FailIs (qcS s c.b) (qcS s c.a) n d r.1 r.2.1 r.2.2 then h.choose else (0,0,false)
structure FailT (s:List Pt) (n d:Int) (c:Pt):Prop where
 p:qtF (qcS s c.b) (qcS s c.a) n d (qaq s n d c).1 (qaq s n d c).2.1 (qaq s n d c).2.2
 f:qsU (qcS s c.b) (qcS s c.a) n d (qaq s n d c).1 (qaq s n d c).2.1 (qaq s n d c).2.2
 i:FailIs (qcS s c.b) (qcS s c.a) n d (qaq s n d c).1 (qaq s n d c).2.1 (qaq s n d c).2.2
theorem qc6 {s:List Pt} {n d:Int} {c:Pt} (hn:I64 n) (hd:I64 d) (ht:okB n d=true) (hs:Val s) (hc:qbC c.a c.b=true) (ha:∃ q∈s,q.id=c.a) (hb:∃ q∈s,q.id=c.b):FailT s n d c:=by
 obtain⟨q,hq,ea⟩:=ha
 obtain⟨p,hp,eb⟩:=hb
 have e1:qcS s c.a=q:=by rw[← ea];exact qcj hs hq
 have e2:qcS s c.b=p:=by rw[← eb];exact qcj hs hp
 have hne:p.id≠q.id:=by have:=(qbe.1 hc).2.2.2.2;omega
 obtain⟨m,k,b,h⟩:=qwv hn hd (hs.ok p hp) (hs.ok q hq) ht hne
 have ex:∃ r:Int×Int×Bool,qtF (qcS s c.b) (qcS s c.a) n d r.1 r.2.1 r.2.2∧qsU (qcS s c.b) (qcS s c.a) n d r.1 r.2.1 r.2.2∧FailIs (qcS s c.b) (qcS s c.a) n d r.1 r.2.1 r.2.2:=by
  rw[e1,e2]
  exact⟨(m,k,b),h⟩
 have hh:qaq s n d c=ex.choose:=by unfold qaq;rw[dif_pos ex]
 obtain⟨h1,h2,h3⟩:=ex.choose_spec
 rw[← hh] at h1 h2 h3
 exact⟨h1,h2,h3⟩
end Go.Proofs.YtkckcgpmnipnaaaGreat

namespace Go.Proofs.YtkckcgpmnipnaaaGreat
set_option maxRecDepth 100000
open Go.RowKit
abbrev slA (u:List Int) (b:List Bool) (f:List Int):SV:=.ag [.ls 0 u.length,.ls 1 b.length,.ls 2 f.length]
abbrev slP (u:List Int) (b:List Bool) (f:List Int):List (Nat×Nat×SV):=[(0,0,zrI u),(1,0,zrB b),(2,0,zrI f)]
section
variable {u f:List Int} {b:List Bool}
theorem qfu (x:Int):Fn 320 3 [slA u b f,.pv (iV x)] (slP u b f) (.pv (.bool (decide (0≤x)&&decide (x<(b.length:Int))))) 0 []:=by
 by_cases h1:0≤x
 ·by_cases h2:x<(b.length:Int)
  ·have:=qv2 (u:=u) (fr:=f) (b:=b) (x:=x) (by simpa using h1) (by simpa using h2)
   simpa [h1,h2] using this
  ·have:=qxB (u:=u) (fr:=f) (b:=b) (x:=x) (by simpa using h1) (by simpa using h2)
   simpa [h1,h2] using this
 ·have:=quN (u:=u) (fr:=f) (b:=b) (x:=x) (by simpa using h1)
  simpa [h1] using this
abbrev ufT (b:List Bool) (k:Nat):List (Nat×SV):=[(1,.pp 3 0),(7,.ls 1 b.length),(8,.pv (iV (b.length:Int))),(9,.pv (iV (k:Int)))]
abbrev ufH (u:List Int) (b:List Bool) (f:List Int):List (Nat×Nat×SV):=[(3,0,.ls 0 u.length),(3,1,.ls 1 b.length),(3,2,.ls 2 f.length),(0,0,zrI u),(1,0,zrB b),(2,0,zrI f)]
theorem qew (hl:b.length=u.length) (hn:b.length≤1000000):∀ (d k:Nat),k+d=b.length→
 ((∀ (j:Nat) (x:Int) (c:Bool),k≤j→u[j]?=some x→b[j]?=some c→(if c=true then 1 else 0)≤x∧x≤1000000)→Rl 3 3 277 0 31 4 (ufT b k) (ufH u b f) (.exit 0) [] [])∧
 (¬ (∀ (j:Nat) (x:Int) (c:Bool),k≤j→u[j]?=some x→b[j]?=some c→(if c=true then 1 else 0)≤x∧x≤1000000)→Rl 3 3 277 0 31 4 (ufT b k) (ufH u b f) .ret [(2,.pv (.bool false))] [])
 | 0,k,h=>by
  refine⟨fun _=>qCm (by simp;omega),fun hno=>(hno fun j x c hj hx hc=>?_).elim⟩
  have:=(List.getElem?_eq_some_iff.1 hc).1
  omega
 | d+1,k,h=>by
  have hk:k<b.length:=by omega
  have hku:k<u.length:=by omega
  obtain⟨y,hy⟩:∃ y,u[k]?=some y:=⟨_,List.getElem?_eq_getElem hku⟩
  obtain⟨c,hc⟩:∃ c,b[k]?=some c:=⟨_,List.getElem?_eq_getElem hk⟩
  obtain⟨ih1,ih2⟩:=qew hl hn d (k+1) (by omega)
  have i1:0≤(k:Int)∧(k:Int)<(b.length:Int):=by omega
  have i2:0≤(k:Int)∧(k:Int)<(u.length:Int):=by omega
  have lt:decide ((k:Int)<(b.length:Int))=true:=by simp;omega
  have hs:=qaB (k:=k) (by omega)
  have split:(∀ (j:Nat) (x:Int) (c:Bool),k≤j→u[j]?=some x→b[j]?=some c→(if c=true then 1 else 0)≤x∧x≤1000000)↔((if c=true then 1 else 0)≤y∧y≤1000000)∧(∀ (j:Nat) (x:Int) (c:Bool),k+1≤j→u[j]?=some x→b[j]?=some c→(if c=true then 1 else 0)≤x∧x≤1000000):=by
   constructor
   ·intro H
    exact⟨H k y c (Nat.le_refl _) hy hc,fun j x c' hj=>H j x c' (by omega)⟩
   ·rintro⟨H1,H2⟩ j x c' hj hx hc'
    by_cases e:j=k
    ·subst e
     rw[hy] at hx;rw[hc] at hc'
     cases hx;cases hc'
     exact H1
    ·exact H2 j x c' (by omega) hx hc'
  by_cases h1:(if c=true then (1:Int) else 0)≤y
  ·by_cases h2:y≤1000000
   ·have hi:decide (y>1000000)=false:=by simp;omega
    have go:∀ {e:Exit} {tm2:TmL} {hp2:HpL},Rl 3 3 277 0 31 4 (ufT b (k+1)) (ufH u b f) e tm2 hp2→Rl 3 3 277 0 31 4 (ufT b k) (ufH u b f) e tm2 hp2:=fun r=>by
     cases c with
     | true=>exact qiu hc hy i1 i2 lt (by simp at h1 ⊢;omega) hi hs r
     | false=>exact qgS hc hy i1 i2 lt (by simp at h1 ⊢;omega) hi hs r
    exact⟨fun H=>go (ih1 (split.1 H).2),fun H=>go (ih2 fun H2=>H (split.2 ⟨⟨h1,h2⟩,H2⟩))⟩
   ·have hi:decide (y>1000000)=true:=by simp;omega
    refine⟨fun H=>(h2 (split.1 H).1.2).elim,fun _=>?_⟩
    cases c with
    | true=>exact qk9 hc hy i1 i2 lt (by simp at h1 ⊢;omega) hi
    | false=>exact qjj hc hy i1 i2 lt (by simp at h1 ⊢;omega) hi
  ·refine⟨fun H=>(h1 (split.1 H).1.1).elim,fun _=>?_⟩
   cases c with
   | true=>exact qlx hc hy i1 i2 lt (by simp at h1 ⊢;omega)
   | false=>exact qjN hc hy i1 i2 lt (by simp at h1 ⊢;omega)
theorem qiT (hl:b.length=u.length) (hn:b.length≤1000000):Fn 277 3 [slA u b f] (slP u b f) (.pv (.bool (qza u b))) 0 []:=by
 obtain⟨h1,h2⟩:=qew (f:=f) hl hn b.length 0 (by omega)
 cases e:qza u b
 ·exact qGM (h2 fun H=>by rw[(qeS hl).2 fun k x c=>H k x c (by omega)] at e;cases e)
 ·have H:=(qeS hl).1 e
  exact qCS (h1 fun j x c _=>H j x c)
abbrev ffT (b:List Bool) (k:Nat):List (Nat×SV):=[(1,.pp 3 0),(3,.pp 5 0),(12,.ls 1 b.length),(13,.pv (iV (b.length:Int))),(14,.pv (iV (k:Int)))]
abbrev ffH (u:List Int) (b:List Bool) (f:List Int) (g:List Bool):List (Nat×Nat×SV):=[(3,0,.ls 0 u.length),(3,1,.ls 1 b.length),(3,2,.ls 2 f.length),(5,0,.ls 4 b.length),(0,0,zrI u),(1,0,zrB b),(2,0,zrI f),(4,0,.row 4 1 b.length (zbV g))]
abbrev ffG (b:List Bool) (k:Nat):List Bool:=(b.map not).take k++List.replicate (b.length-k) false
theorem qsX {k:Nat} {c:Bool} (hc:b[k]?=some c):(ffG b k).set k (!c)=ffG b (k+1):=by
 have hk:=(List.getElem?_eq_some_iff.1 hc).1
 unfold ffG
 rw[List.set_append_right _ _ (by simp;omega),List.length_take,List.length_map,show min k b.length=k by omega,Nat.sub_self,show b.length-k=(b.length-(k+1))+1 by omega,List.replicate_succ,List.set_cons_zero,List.take_add_one,List.getElem?_map,hc]
 simp
theorem qfP (hn:b.length≤1000000):Rl 3 3 278 0 36 6 (ffT b 0) (ffH u b f (List.replicate b.length false)) (.exit 0) [(1,.pp 3 0),(3,.pp 5 0)] (ffH u b f (b.map not)):=by
 have e0:List.replicate b.length false=ffG b 0:=by simp[ffG]
 have e1:b.map not=ffG b b.length:=by unfold ffG;rw[List.take_of_length_le (by simp)];simp
 rw[e0,e1]
 refine RunsL.roundsZ (fun k=>ffT b k) (fun k=>ffH u b f (ffG b k)) b.length 0 (by omega) (fun k _ hk r=>?_) (qCw (by simp))
 obtain⟨c,hc⟩:∃ c,b[k]?=some c:=⟨_,List.getElem?_eq_getElem hk⟩
 have hg:k<(ffG b k).length:=by simp[ffG];omega
 have lt:decide ((k:Int)<(b.length:Int))=true:=by simp;omega
 rw[← qsX hc] at r
 cases c with
 | true=>exact qhC hc (by omega) hg lt (qaB (by omega)) r
 | false=>exact qgB hc (by omega) hg lt (qaB (by omega)) r
abbrev fxT (f:List Int) (k:Nat):List (Nat×SV):=[(0,.ls 2 f.length),(1,.pc 319 [.pp 3 0,.pp 5 0]),(7,.pv (iV (f.length:Int))),(8,.pv (iV (k:Int)))]
theorem qdq (hf:f.length≤1000000):∀ (d k:Nat) (g:List Bool),k+d=f.length→g.length=b.length→
 (∀ g',qbr g (f.drop k)=some g'→Rl 3 6 340 0 19 6 (fxT f k) (ffH u b f g) (.exit 0) [] (ffH u b f g'))∧
 (qbr g (f.drop k)=none→∃ (j:Nat) (g':List Bool),Rl 3 6 340 0 19 6 (fxT f k) (ffH u b f g) .ret [(4,.pv (iV (j:Int)))] (ffH u b f g'))
 | 0,k,g,h,hg=>by
  have e:f.drop k=[]:=List.drop_eq_nil_iff.2 (by omega)
  rw[e]
  refine⟨fun g' h'=>?_,fun h'=>(by cases h')⟩
  cases h'
  exact qDm (by simp;omega)
 | d+1,k,g,h,hg=>by
  have hk:k<f.length:=by omega
  obtain⟨x,hx⟩:∃ x,f[k]?=some x:=⟨_,List.getElem?_eq_getElem hk⟩
  have e:f.drop k=x::f.drop (k+1):=by
   rw[List.drop_eq_getElem_cons hk]
   rw[List.getElem?_eq_getElem hk] at hx
   cases hx;rfl
  have i1:0≤(k:Int)∧(k:Int)<(f.length:Int):=by omega
  have lt:decide ((k:Int)<(f.length:Int))=true:=by simp;omega
  rw[e]
  unfold qbr
  by_cases hin:0≤x∧x<(b.length:Int)
  ·have hhs:Fn 320 3 [slA u b f,.pv (iV x)] (slP u b f) (.pv (.bool true)) 0 []:=by
    have:=qfu (u:=u) (f:=f) (b:=b) x
    simpa [hin.1,hin.2] using this
   have hxl:x.toNat<g.length:=by omega
   obtain⟨c,hc⟩:∃ c,g[x.toNat]?=some c:=⟨_,List.getElem?_eq_getElem hxl⟩
   cases c with
   | true=>
    rw[if_pos ⟨hin.1,by omega,hc⟩]
    obtain⟨i3,i4⟩:=qdq hf d (k+1) (g.set x.toNat false) (by omega) (by rw[List.length_set];exact hg)
    have go:∀ {e:Exit} {tm2:TmL} {hp2:HpL},Rl 3 6 340 0 19 6 (fxT f (k+1)) (ffH u b f (g.set x.toNat false)) e tm2 hp2→Rl 3 6 340 0 19 6 (fxT f k) (ffH u b f g) e tm2 hp2:=fun r=>
     quK hx i1 lt hhs hc hin hxl (qaB (by omega)) r
    refine⟨fun g' h'=>go (i3 g' h'),fun h'=>?_⟩
    obtain⟨j,g',r⟩:=i4 h'
    exact⟨j,g',go r⟩
   | false=>
    rw[if_neg (fun h'=>by rw[hc] at h';cases h'.2.2)]
    exact⟨fun g' h'=>(by cases h'),fun _=>⟨k,g,qyX hx i1 lt hhs hc hin⟩⟩
  ·rw[if_neg (fun h'=>hin ⟨h'.1,by omega⟩)]
   have hhs:Fn 320 3 [slA u b f,.pv (iV x)] (slP u b f) (.pv (.bool false)) 0 []:=by
    have:=qfu (u:=u) (f:=f) (b:=b) x
    have e:(decide (0≤x)&&decide (x<(b.length:Int)))=false:=by
     rw[Bool.and_eq_false_iff]
     by_cases h0:0≤x
     ·right;simp;omega
     ·left;simpa using h0
    rw[e] at this
    exact this
   exact⟨fun g' h'=>(by cases h'),fun _=>⟨k,g,qAu hx i1 lt hhs⟩⟩
theorem qdX {g:List Bool} (hn:g.length≤1000000):∀ (d k:Nat),k+d=g.length→
 (true∉g.drop k→Rl 1 1 341 0 19 1 [(0,.ls 0 g.length),(1,.pv (.bool true)),(7,.pv (iV (g.length:Int))),(8,.pv (iV (k:Int)))] [(0,0,zrB g)] (.exit 0) [] [])∧
 (true∈g.drop k→∃ j:Nat,Rl 1 1 341 0 19 1 [(0,.ls 0 g.length),(1,.pv (.bool true)),(7,.pv (iV (g.length:Int))),(8,.pv (iV (k:Int)))] [(0,0,zrB g)] .ret [(4,.pv (iV (j:Int)))] [])
 | 0,k,h=>by
  have e:g.drop k=[]:=List.drop_eq_nil_iff.2 (by omega)
  rw[e]
  exact⟨fun _=>qz5 (by simp;omega),fun h=>by cases h⟩
 | d+1,k,h=>by
  have hk:k<g.length:=by omega
  obtain⟨c,hc⟩:∃ c,g[k]?=some c:=⟨_,List.getElem?_eq_getElem hk⟩
  have e:g.drop k=c::g.drop (k+1):=by
   rw[List.drop_eq_getElem_cons hk]
   rw[List.getElem?_eq_getElem hk] at hc
   cases hc;rfl
  have i1:0≤(k:Int)∧(k:Int)<(g.length:Int):=by omega
  have lt:decide ((k:Int)<(g.length:Int))=true:=by simp;omega
  obtain⟨i3,i4⟩:=qdX hn d (k+1) (by omega)
  rw[e]
  cases c with
  | true=>exact⟨fun h=>(h List.mem_cons_self).elim,fun _=>⟨k,qv9 hc i1 lt⟩⟩
  | false=>
   refine⟨fun h=>qkF hc i1 lt (qaB (by omega)) (i3 fun hm=>h (List.mem_cons_of_mem _ hm)),fun hm=>?_⟩
   rcases List.mem_cons.1 hm with h | h
   ·cases h
   ·obtain⟨j,r⟩:=i4 h
    exact⟨j,qkF hc i1 lt (qaB (by omega)) r⟩
theorem qhG {g:List Bool} (hn:g.length≤1000000):Fn 322 1 [.ls 0 g.length,.pv (.bool true)] [(0,0,zrB g)] (.pv (.bool (g.contains true))) 0 []:=by
 obtain⟨h1,h2⟩:=qdX hn g.length 0 (by omega)
 rw[List.drop_zero] at h1 h2
 by_cases hm:true∈g
 ·obtain⟨j,r⟩:=h2 hm
  have e:g.contains true=true:=by simpa using hm
  rw[e]
  exact qCh r (by simp)
 ·have e:g.contains true=false:=by simpa using hm
  rw[e]
  exact qEY (h1 hm)
theorem qim (hn:b.length≤1000000) (hf:f.length≤1000000):Fn 278 3 [slA u b f] (slP u b f) (.pv (.bool (qeL b f))) 0 []:=by
 have r0:=qfP (u:=u) (f:=f) hn
 obtain⟨h1,h2⟩:=qdq (u:=u) (b:=b) hf f.length 0 (b.map not) (by omega) (by simp)
 rw[List.drop_zero] at h1 h2
 unfold qeL
 split
 ·rename_i g hg
  have hl:g.length=b.length:=by rw[qep hg,List.length_map]
  have hc:=qhG (g:=g) (by omega)
  simp only[zrB] at hc
  rw[hl] at hc
  cases e:g.contains true
  ·rw[e] at hc
   exact qGb (by omega) (by omega) r0 (h1 g hg) hl hc
  ·rw[e] at hc
   exact qyt (by omega) (by omega) r0 (h1 g hg) hl hc
 ·rename_i hg
  obtain⟨j,g',r⟩:=h2 hg
  exact qsz (by omega) (by omega) r0 r (by simp)
theorem qgs (hf:f.length≤1000000):Fn 224 3 [slA u b f] (slP u b f) (.pv (iV (if qcJ u b f=true then 0 else 8))) 0 []:=by
 by_cases h1:1≤u.length
 ·by_cases h2:u.length≤200
  ·have hz:Pure Tryz.prog 213 #[iV (u.length:Int)] (.bool true):=qtW (by simp;omega) (by simp;omega)
   by_cases h3:b.length=u.length
   ·have hl:(!((b.length:Int)==(u.length:Int)))=false:=by simp;omega
    have hu:=qiT (f:=f) h3 (by omega)
    have hfr:=qim (u:=u) (b:=b) (f:=f) (by omega) hf
    cases e1:qza u b
    ·rw[e1] at hu
     rw[if_neg (by unfold qcJ;simp[e1])]
     exact qBn hz hl hu
    ·rw[e1] at hu
     cases e2:qeL b f
     ·rw[e2] at hfr
      rw[if_neg (by unfold qcJ;simp[e2])]
      exact qxT hz hl hu hfr
     ·rw[e2] at hfr
      rw[if_pos (by unfold qcJ;simp[h1,h2,h3,e1,e2])]
      exact qAA hz hl hu hfr
   ·rw[if_neg (by unfold qcJ;simp[h3])]
    exact qzE hz (by simp;omega)
  ·rw[if_neg (by unfold qcJ;simp[h2])]
   exact qoX (qBs (by simp;omega) (by simp;omega))
 ·rw[if_neg (by unfold qcJ;simp[h1])]
  exact qoX (qzx (by simp;omega))
end
end Go.Proofs.YtkckcgpmnipnaaaGreat

namespace Go.Proofs.YtkckcgpmnipnaaaGreat
set_option maxRecDepth 100000
open Go.RowKit
theorem qfE (n:Nat):some (SV.row 3 1 n (qdh [iV 0] n))=some (SV.row 3 1 n (ziV (List.replicate n 0))):=by rw[qka]
theorem qvn (n:Nat):SV.ls 2 (0+n)=(SV.ls 1 n).ren (qaK [(1,2)]):=by rw[Nat.zero_add];rfl
theorem qd9 (e:TypeId) (n:Nat) (xs:List Value):some (SV.row e 1 (0+n) ([]++xs))=some (SV.row e 1 n xs):=by rw[Nat.zero_add,List.nil_append]
abbrev qDS (g:List Int) (n:Nat):HpL:=[(0,0,.pv (.slice none 0 0)),(0,1,.pv (.slice none 0 0)),(0,2,.pv (.slice none 0 0)),(4,0,.ls 1 n),(4,1,.ls 2 n),(4,2,.ls 3 n),(1,0,.row 3 1 n (ziV (List.replicate n 0))),(2,0,.row 4 1 n (zbV (List.replicate n false))),(3,0,.row 3 1 n (ziV g))]
theorem qwr {g:List Int} {k n:Nat} (hg:k<g.length) (hin:0≤(k:Int)∧(k:Int)<(n:Int)) (hlt:decide ((k:Int)<(n:Int))=true) (h1:iV (IntKind.i64.wrap ((n:Int)-1))=iV ((n:Int)-1)) (h2:iV (IntKind.i64.wrap ((n:Int)-1-(k:Int)))=iV ((n:Int)-1-(k:Int))) (hs:iV (IntKind.i64.wrap ((k:Int)+1))=iV (((k+1:Nat):Int))) {e:Exit} {tm2:TmL} {hp2:HpL}
 (r:Rl 0 0 170 0 31 5 ([(0,.pv (iV (n:Int))),(2,.pp 0 0),(4,.pp 4 0),(17,.pv (iV (n:Int))),(18,.pv (iV ((k+1:Nat):Int)))]) ([(0,0,.pv (.slice none 0 0)),(0,1,.pv (.slice none 0 0)),(0,2,.pv (.slice none 0 0)),(4,0,.ls 1 n),(4,1,.ls 2 n),(4,2,.ls 3 n),(1,0,.row 3 1 n (ziV (List.replicate n 0))),(2,0,.row 4 1 n (zbV (List.replicate n false))),(3,0,.row 3 1 n (ziV (g.set k ((n:Int)-1-(k:Int)))))]) e tm2 hp2):Rl 0 0 170 0 31 5 ([(0,.pv (iV (n:Int))),(2,.pp 0 0),(4,.pp 4 0),(17,.pv (iV (n:Int))),(18,.pv (iV (k:Int)))]) (qDS g n) e tm2 hp2:=
 RunsL.next [] 300 [.t true,Re h1,Re h2,.w (ziV (g.set k ((n:Int)-1-(k:Int)))),Re hs]
  (Ro (Ai hlt (Ai h1 (Ai h2 (Ai hin (Ai (qmi g k ((n:Int)-1-(k:Int)) hg) (Ai (qcK g k hg) (Ai hs tI)))))))) r
theorem qzP {g:List Int} {k n:Nat} (hge:decide ((k:Int)<(n:Int))=false):Rl 0 0 170 0 31 5 ([(0,.pv (iV (n:Int))),(2,.pp 0 0),(4,.pp 4 0),(17,.pv (iV (n:Int))),(18,.pv (iV (k:Int)))]) (qDS g n) (.exit 0) ([(2,.pp 0 0),(4,.pp 4 0)]) (qDS g n):=
 RunsL.stop [] 300 [.t false] (fun h=>by cases h)
  (Ro (Ai hge tI))
theorem qEO {g:List Int} {n:Nat} (hz:Pure Tryz.prog 213 #[iV (n:Int)] (.bool true)) (n0:0≤(n:Int)) (n1:(n:Int)≤1000000) (r0:Rl 0 0 170 0 31 5 ([(0,.pv (iV (n:Int))),(2,.pp 0 0),(4,.pp 4 0),(17,.pv (iV (n:Int))),(18,.pv (iV ((0:Nat):Int)))]) ([(0,0,.pv (.slice none 0 0)),(0,1,.pv (.slice none 0 0)),(0,2,.pv (.slice none 0 0)),(4,0,.ls 1 n),(4,1,.ls 2 n),(4,2,.ls 3 n),(1,0,.row 3 1 n (ziV (List.replicate n 0))),(2,0,.row 4 1 n (zbV (List.replicate n false))),(3,0,.row 3 1 n (ziV (List.replicate n 0)))]) (.exit 0) ([(2,.pp 0 0),(4,.pp 4 0)]) (qDS g n)) :
 Fn 170 0 [.pv (iV (n:Int))] [] (.tu [.ag [.ls 0 n,.ls 1 n,.ls 2 n],.one (.pv (iV 0))]) 3 [(0,0,.row 3 1 n (ziV (List.replicate n 0))),(1,0,.row 4 1 n (zbV (List.replicate n false))),(2,0,.row 3 1 n (ziV g))]:=
 Fz [(0,1),(1,2),(2,3)] [Rf hz,.k,.md,Lf r0]
  (qaE (qaK [(0,1),(1,2),(2,3)]) [(0,0,.row 3 1 n (ziV (List.replicate n 0))),(1,0,.row 4 1 n (zbV (List.replicate n false))),(2,0,.row 3 1 n (ziV g))]) (Ai hz (Ai n0 (Ai (Eq.refl (n:Int)) (Ai n1 (Ai n0 (Ai (Eq.refl (n:Int)) (Ai n1 (Ai n0 (Ai (Eq.refl (n:Int)) (Ai n1 (Ai (Lt r0 []) (Ai (Ai (Er (SV.pv (.slice none 0 0))) (Ai (Er (SV.pv (.slice none 0 0))) (Ai (Er (SV.pv (.slice none 0 0))) (Ai (Er (SV.ls 1 n)) (Ai (Er (SV.ls 2 n)) (Ai (Er (SV.ls 3 n)) (Ai (qfE n) (Ai (qb9 n) (Ai (qfE n) tI))))))))) (Ai r0 tI)))))))))))))
theorem qrr {l:List Int} (h0:0<l.length) (hn:0+l.length≤1000000) :
 Fn 63 1 [.ls 0 l.length] [(0,0,zrI l)] (.ls 1 l.length) 1 [(1,0,zrI l)]:=
 Fx [(1,2)] [.t false]
  (qvn l.length) (Ai (qd9 3 l.length (ziV l)) tI) (Ai h0 (Ai hn tI))
theorem qF9 {ad:Addr} {c:Nat} :
 Fn 63 0 [.pv (.slice (some ad) 0 c)] [] (.ls 0 0) 1 [(0,0,.row 3 1 0 [])]:=
 Fz [(0,1)] [.k]
  (qaE (qaK [(0,1)]) [(0,0,.row 3 1 0 [])]) (Ai (Nat.zero_le _:0+0≤1000000) tI)
theorem qxm {c:Nat}:Pure Tryz.prog 63 #[.slice none 0 c] (.slice none 0 0):=
 qax (args:=[.slice none 0 c]) 200 [] (Ai rfl tI) (by kernel_rfl)
theorem qsr {l:List Int} (h0:0<l.length) (hn:0+l.length≤1000000) :
 Fn 347 1 [.ls 0 l.length] [(0,0,zrI l)] (.ls 1 l.length) 1 [(1,0,zrI l)]:=
 Fx [(1,2)] [.t false]
  (qvn l.length) (Ai (qd9 3 l.length (ziV l)) tI) (Ai h0 (Ai hn tI))
theorem qEn {ad:Addr} {c:Nat} :
 Fn 347 0 [.pv (.slice (some ad) 0 c)] [] (.ls 0 0) 1 [(0,0,.row 3 1 0 [])]:=
 Fz [(0,1)] [.k]
  (qaE (qaK [(0,1)]) [(0,0,.row 3 1 0 [])]) (Ai (Nat.zero_le _:0+0≤1000000) tI)
theorem qwM {c:Nat}:Pure Tryz.prog 347 #[.slice none 0 c] (.slice none 0 0):=
 qax (args:=[.slice none 0 c]) 200 [] (Ai rfl tI) (by kernel_rfl)
theorem qtv {l:List Bool} (h0:0<l.length) (hn:0+l.length≤1000000) :
 Fn 348 1 [.ls 0 l.length] [(0,0,zrB l)] (.ls 1 l.length) 1 [(1,0,zrB l)]:=
 Fx [(1,2)] [.t false]
  (qvn l.length) (Ai (qd9 4 l.length (zbV l)) tI) (Ai h0 (Ai hn tI))
theorem qGt {ad:Addr} {c:Nat} :
 Fn 348 0 [.pv (.slice (some ad) 0 c)] [] (.ls 0 0) 1 [(0,0,.row 4 1 0 [])]:=
 Fz [(0,1)] [.k]
  (qaE (qaK [(0,1)]) [(0,0,.row 4 1 0 [])]) (Ai (Nat.zero_le _:0+0≤1000000) tI)
theorem qx0 {c:Nat}:Pure Tryz.prog 348 #[.slice none 0 c] (.slice none 0 0):=
 qax (args:=[.slice none 0 c]) 200 [] (Ai rfl tI) (by kernel_rfl)
theorem wti {l:List Int} {x y:Int} (hin:0≤x∧x<(l.length:Int)) (hl:x.toNat<l.length) (hc:Fn 347 1 [.ls 0 l.length] [(0,0,zrI l)] (.ls 1 l.length) 1 [(1,0,zrI l)]) :
 Fn 337 1 [.ls 0 l.length,.pv (iV x),.pv (iV y)] [(0,0,zrI l)] (.ls 1 l.length) 1 [(1,0,.row 3 1 l.length (ziV (l.set x.toNat y)))]:=
 Fz [(1,1)] [Cf hc [0],.w (ziV (l.set x.toNat y))]
  (qaE (qaK [(1,1)]) [(1,0,.row 3 1 l.length (ziV (l.set x.toNat y)))]) (Co hc [0] 1 (Ai hin (Ai (qmi l x.toNat y hl) (Ai (qcK l x.toNat hl) tI))))
theorem qGV {l:List Bool} {x:Int} (hin:0≤x∧x<(l.length:Int)) (hl:x.toNat<l.length) (hc:Fn 348 1 [.ls 0 l.length] [(0,0,zrB l)] (.ls 1 l.length) 1 [(1,0,zrB l)]) :
 Fn 338 1 [.ls 0 l.length,.pv (iV x),.pv (.bool true)] [(0,0,zrB l)] (.ls 1 l.length) 1 [(1,0,.row 4 1 l.length (zbV (l.set x.toNat true)))]:=
 Fz [(1,1)] [Cf hc [0],.w (zbV (l.set x.toNat true))]
  (qaE (qaK [(1,1)]) [(1,0,.row 4 1 l.length (zbV (l.set x.toNat true)))]) (Co hc [0] 1 (Ai hin (Ai (qzq l x.toNat true hl) (Ai (qf9 l x.toNat hl) tI))))
abbrev qFd (b:List Bool) (fr:List Int) (u:List Int):Prop:=Fn 224 3 [.ag [.ls 0 u.length,.ls 1 b.length,.ls 2 fr.length]] [(0,0,zrI u),(1,0,zrB b),(2,0,zrI fr)] (.pv (iV (0))) 0 []
theorem qxl {u fr:List Int} {b:List Bool} (hc:qFd b fr u) (hl:iV (IntKind.i64.wrap ((fr.length:Int)-1))=iV (-1)) :
 Fn 315 3 [.ag [.ls 0 u.length,.ls 1 b.length,.ls 2 fr.length]] [(0,0,zrI u),(1,0,zrB b),(2,0,zrI fr)] (.pv (.tuple #[.agg #[.slice none 0 0,.slice none 0 0,.slice none 0 0],.agg #[iV 0,iV 0],iV 18])) 0 []:=
 Fz [] [Cf hc [0,1,2],.k,Re hl,.k]
  tI (Co hc [0,1,2] 6 (Ai hl tI))
theorem qvR {u fr:List Int} {b:List Bool} {x y:Int} {m:Nat} (hc:qFd b fr u) (hl:iV (IntKind.i64.wrap ((fr.length:Int)-1))=iV (m:Int)) (h0:decide ((m:Int)<0)=false) (hm:0≤(m:Int)∧(m:Int)<(fr.length:Int)) (hf:fr[m]?=some x) (hx:0≤x∧x<(u.length:Int)) (hu:u[x.toNat]?=some y) (hy:(y==1000000)=true) :
 Fn 315 3 [.ag [.ls 0 u.length,.ls 1 b.length,.ls 2 fr.length]] [(0,0,zrI u),(1,0,zrB b),(2,0,zrI fr)] (.pv (.tuple #[.agg #[.slice none 0 0,.slice none 0 0,.slice none 0 0],.agg #[iV 0,iV 0],iV 18])) 0 []:=
 Fz [] [Cf hc [0,1,2],.k,Re hl,.t false,.r (iV x),.r (iV y),.t true]
  tI (Co hc [0,1,2] 6 (Ai hl (Ai h0 (Ai hm (Ai (qaQ hf) (Ai hx (Ai (qfM hu) (Ai hy tI))))))))
theorem qFF {u fr:List Int} {b:List Bool} {x y z:Int} {m:Nat} (hc:qFd b fr u) (hl:iV (IntKind.i64.wrap ((fr.length:Int)-1))=iV (m:Int)) (h0:decide ((m:Int)<0)=false) (hm:0≤(m:Int)∧(m:Int)<(fr.length:Int)) (hf:fr[m]?=some x) (hx:0≤x∧x<(u.length:Int)) (hu:u[x.toNat]?=some y) (hy:(y==1000000)=false) (h1:iV (IntKind.i64.wrap (y+1))=iV (z)) (w1:Fn 337 1 [.ls 0 u.length,.pv (iV x),.pv (iV z)] [(0,0,zrI u)] (.ls 1 u.length) 1 [(1,0,.row 3 1 u.length (ziV (u.set x.toNat z)))]) (w2:Fn 338 1 [.ls 0 b.length,.pv (iV x),.pv (.bool true)] [(0,0,zrB b)] (.ls 1 b.length) 1 [(1,0,.row 4 1 b.length (zbV (b.set x.toNat true)))]) (hml:m≤fr.length) (w3:Fn 63 1 [.lq 0 1 0 m] [(0,0,zrI fr)] (.ls 1 m) 1 [(1,0,.row 3 1 m (ziV (fr.take m)))]) :
 Fn 315 3 [.ag [.ls 0 u.length,.ls 1 b.length,.ls 2 fr.length]] [(0,0,zrI u),(1,0,zrB b),(2,0,zrI fr)] (.tu [.ag [.ls 3 u.length,.ls 4 b.length,.ls 5 m],.one (.pv (.agg #[iV x,iV z])),.one (.pv (iV 0))]) 3 [(3,0,.row 3 1 u.length (ziV (u.set x.toNat z))),(4,0,.row 4 1 b.length (zbV (b.set x.toNat true))),(5,0,.row 3 1 m (ziV (fr.take m)))]:=
 Fz [(3,7),(4,8),(5,9)] [Cf hc [0,1,2],.k,Re hl,.t false,.r (iV x),.r (iV y),.t false,.r (iV x),.r (iV x),.r (iV y),Re h1,.md,Cf w1 [0],Cf w2 [1],.k,Cf w3 [2]]
  (qaE (qaK [(3,7),(4,8),(5,9)]) [(3,0,.row 3 1 u.length (ziV (u.set x.toNat z))),(4,0,.row 4 1 b.length (zbV (b.set x.toNat true))),(5,0,.row 3 1 m (ziV (fr.take m)))]) (Co hc [0,1,2] 6 (Ai hl (Ai h0 (Ai hm (Ai (qaQ hf) (Ai hx (Ai (qfM hu) (Ai hy (Ai hm (Ai (qaQ hf) (Ai hm (Ai (qaQ hf) (Ai hx (Ai (qfM hu) (Ai h1 (Co w1 [0] 7 (Co w2 [1] 8 (Ai tI (Ai (Int.natCast_nonneg m) (Ai (Nat.zero_le m) (Ai hml (Co w3 [2] 9 tI))))))))))))))))))))))
end Go.Proofs.YtkckcgpmnipnaaaGreat
