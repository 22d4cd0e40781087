/-
  Package bracket's nodes, checks, winners, brackets that are built: contracts. Conditions: none.
-/
import Derived.Test.YtgbmdijodlfcaaaW29
import Derived.Test.YtgbmdijodlfcaaaW21
namespace Go.Proofs.Ytgbmdijodlfcaaa
set_option maxRecDepth 100000
open Go.RowKit
theorem qa5 {b:Br} {i:Nat} (h:i<b.w.length):b.w[i]?=some (b.nd i):=by rw[qc4 h];exact getD_some h
theorem qg0 {b:Br} {i:Nat} (h1:b.w.length≤i) (h2:i-b.w.length<b.p.length):b.p[i-b.w.length]?=some (b.nd i):=by rw[qaO h1];exact getD_some h2
theorem qgp {b:Br} {n j:Nat} (hn:b.w.length=n) (hj:b.p.length=j) (hw:n+1=j) (hl:j≤100000) {i:Nat} (hi:i≤2*n) {z:Int} (hz:z=(i:Int)) :
 Fn 43 2 [.ls 0 n,.ls 1 j,.pv (iV z)] [(0,0,.row 3 1 n (ziV b.w)),(1,0,.row 3 1 j (ziV b.p))] (.pv (iV (b.nd i))) 0 []:=by
 by_cases h:i<n
 ·exact qpn (h1:=dt (by omega)) (hin:=⟨by omega,by omega⟩) (hk:=by rw[hz,show (i:Int).toNat=i from rfl];exact qa5 (by omega))
 ·exact qnh (y:=((i-n:Nat):Int)) (h1:=df (by omega)) (hs:=by rw[qbl (by omega) (by omega)];congr 1;omega) (hin:=⟨by omega,by omega⟩) (hk:=by
   have:=qg0 (b:=b) (i:=i) (by omega) (by omega)
   rw[hn] at this;exact this)
theorem qgi {b:Br} {n j:Nat} (hn:b.w.length=n) (hj:b.p.length=j) (hw:n+1=j) (hl:j≤100000) {i:Nat} (hi:i<n) {z:Int} (hz:z=(i:Int)) :
 Fn 67 2 [.ls 0 n,.ls 1 j,.pv (iV z)] [(0,0,.row 3 1 n (ziV b.w)),(1,0,.row 3 1 j (ziV b.p))] (.pv (.tuple #[iV (b.nd (2*i+1)),iV (b.nd (2*i+2))])) 0 []:=
 qch (e:=2*z) (e1:=2*z+1) (e2:=2*z+2) (hm:=qbl (by omega) (by omega)) (ha:=qbl (by omega) (by omega)) (hb:=qbl (by omega) (by omega)) (h1:=qgp hn hj hw hl (i:=2*i+1) (by omega) (by omega)) (h2:=qgp hn hj hw hl (i:=2*i+2) (by omega) (by omega))
def qqO (b:Br):Prop:=∀ i,i<b.w.length→(b.nd i=b.nd (2*i+1)∨b.nd i=b.nd (2*i+2))∧(b.nd i = -1→b.nd (2*i+1) = -1∧b.nd (2*i+2) = -1)
theorem qko {b:Br} (hw:b.w.length+1=b.p.length) (hl:b.p.length≤100000):Fn 50 2 [brS 0 1 b] [(0,0,zrI b.p),(1,0,zrI b.w)] (.pv (.bool (pB (qqO b)))) 0 []:=by
 have hc:∀ j,j<b.w.length→Fn 67 2 [.ls 0 b.w.length,.ls 1 b.p.length,.pv (iV (j:Int))] [(0,0,zrI b.w),(1,0,zrI b.p)] (.pv (.tuple #[iV (b.nd (2*j+1)),iV (b.nd (2*j+2))])) 0 []:=fun j hj=>qgi rfl rfl hw hl hj rfl
 have step:∀ k,(∀ j,j<k→(b.nd j=b.nd (2*j+1)∨b.nd j=b.nd (2*j+2))∧(b.nd j = -1→b.nd (2*j+1) = -1∧b.nd (2*j+2) = -1))→∀ {e:Exit} {tm2:TmL} {hp2:HpL},k≤b.w.length→
  Rl 2 2 50 0 42 3 [(1,.pp 2 0),(8,.ls 1 b.w.length),(9,.pv (iV (b.w.length:Int))),(10,.pv (iV (k:Int)))] [(2,0,.ls 0 b.p.length),(2,1,.ls 1 b.w.length),(0,0,zrI b.p),(1,0,zrI b.w)] e tm2 hp2→
  Rl 2 2 50 0 42 3 [(1,.pp 2 0),(8,.ls 1 b.w.length),(9,.pv (iV (b.w.length:Int))),(10,.pv (iV ((0:Nat):Int)))] [(2,0,.ls 0 b.p.length),(2,1,.ls 1 b.w.length),(0,0,zrI b.p),(1,0,zrI b.w)] e tm2 hp2:=by
  intro k hk e tm2 hp2 hkl r
  refine RunsL.rounds (fun j=>[(1,.pp 2 0),(8,.ls 1 b.w.length),(9,.pv (iV (b.w.length:Int))),(10,.pv (iV (j:Int)))]) (fun _=>[(2,0,.ls 0 b.p.length),(2,1,.ls 1 b.w.length),(0,0,zrI b.p),(1,0,zrI b.w)]) (N:=k) k 0 (Nat.zero_add _) (fun j _ hj r=>?_) r
  have hjl:j<b.w.length:=by omega
  have hx:=qa5 hjl
  obtain⟨h1,h2⟩:=hk j hj
  by_cases a1:b.nd j=b.nd (2*j+1)
  ·by_cases a3:b.nd j = -1
   ·obtain⟨c1,c2⟩:=h2 a3
    exact qqw (hk:=hx) (hin:=qas hjl) (hlt:=dt (by omega)) (hc:=hc j hjl) (hx:=by simp[a1]) (hn:=by simp[a3]) (hxy:=by simp[c1,c2]) (hs:=qah (by omega)) r
   ·exact qpd (hk:=hx) (hin:=qas hjl) (hlt:=dt (by omega)) (hc:=hc j hjl) (hx:=by simp[a1]) (hn:=by simpa using a3) (hs:=qah (by omega)) r
  ·have a2:=h1.resolve_left a1
   by_cases a3:b.nd j = -1
   ·obtain⟨c1,_⟩:=h2 a3
    exact (a1 (by omega)).elim
   ·exact qpL (hk:=hx) (hin:=qas hjl) (hlt:=dt (by omega)) (hc:=hc j hjl) (hx:=by simpa using a1) (hy:=by simp[a2]) (hn:=by simpa using a3) (hs:=qah (by omega)) r
 rcases qaC (fun j=>(b.nd j=b.nd (2*j+1)∨b.nd j=b.nd (2*j+2))∧(b.nd j = -1→b.nd (2*j+1) = -1∧b.nd (2*j+2) = -1)) b.w.length with h | ⟨j,hj,hb,hf⟩
 ·rw[qeX (p:=qqO b) h]
  exact qne (r0:=step b.w.length h (Nat.le_refl _) (qn8 (hge:=df (by omega))))
 ·rw[qe0 (p:=qqO b) fun h=>hb (h j hj)]
  refine qp7 (r0:=step j hf (by omega) ?_)
  have hx:=qa5 hj
  by_cases a1:b.nd j=b.nd (2*j+1)
  ·have a3:b.nd j = -1:=Classical.byContradiction fun a3=>hb ⟨Or.inl a1,fun e=>(a3 e).elim⟩
   have a4:b.nd (2*j+1)≠b.nd (2*j+2):=fun a4=>hb ⟨Or.inl a1,fun e=>⟨by omega,by omega⟩⟩
   exact qqt (hk:=hx) (hin:=qas hj) (hlt:=dt (by omega)) (hc:=hc j hj) (hx:=by simp[a1]) (hn:=by simp[a3]) (hxy:=by simpa using a4)
  ·by_cases a2:b.nd j=b.nd (2*j+2)
   ·have a3:b.nd j = -1:=Classical.byContradiction fun a3=>hb ⟨Or.inr a2,fun e=>(a3 e).elim⟩
    exact qpB (hk:=hx) (hin:=qas hj) (hlt:=dt (by omega)) (hc:=hc j hj) (hx:=by simpa using a1) (hy:=by simp[a2]) (hn:=by simp[a3]) (hxy:=by simp;omega)
   ·exact qo4 (hk:=hx) (hin:=qas hj) (hlt:=dt (by omega)) (hc:=hc j hj) (hx:=by simpa using a1) (hy:=by simpa using a2)
theorem qjD {l:List Int}:Fn 37 1 [.ls 0 l.length] [(0,0,zrI l)] (.pv (iV (if 1≤l.length∧l.length≤64 then 0 else 2))) 0 []:=by
 by_cases h1:l.length<1
 ·rw[if_neg (by omega)];exact qpw (h1:=dt (by omega))
 ·by_cases h2:l.length>64
  ·rw[if_neg (by omega)];exact qqG (h1:=df (by omega)) (h2:=dt (by omega))
  ·rw[if_pos (by omega)];exact qqp (h1:=df (by omega)) (h2:=df (by omega))
theorem qi8 {b:Br} (x:Int):Fn 44 2 [brS 0 1 b,.pv (iV x)] [(0,0,zrI b.p),(1,0,zrI b.w)] (.pv (iV (if 0≤x∧x<b.p.length then 0 else 2))) 0 []:=by
 by_cases h1:x<0
 ·rw[if_neg (by omega)];exact qpq (h1:=dt (by omega))
 ·by_cases h2:x≥b.p.length
  ·rw[if_neg (by omega)];exact qoS (h1:=df (by omega)) (h2:=dt (by omega))
  ·rw[if_pos (by omega)];exact qpu (h1:=df (by omega)) (h2:=df (by omega))
theorem qdt {b:Br} (h:VB b):erB b=0:=by unfold erB;rw[if_pos h]
theorem qaP {b:Br} (h:¬ VB b):erB b=8:=by unfold erB;rw[if_neg h]
theorem qj3 {b:Br} (h1:b.p.length≤70) (h2:b.w.length≤70):Fn 16 2 [brS 0 1 b] [(0,0,zrI b.p),(1,0,zrI b.w)] (.pv (iV (erB b))) 0 []:=by
 have s1:=qjD (l:=b.p)
 by_cases a1:1≤b.p.length∧b.p.length≤64
 ·rw[if_pos a1] at s1
  have hs:iV (IntKind.i64.wrap ((b.p.length:Int)-1))=iV ((b.p.length:Int)-1):=qbl (by omega) (by omega)
  by_cases a2:b.w.length+1=b.p.length
  ·have hl:((b.w.length:Int) !=(b.p.length:Int)-1)=false:=by simp;omega
   have s2:=qkj (l:=b.p) (by omega)
   by_cases a3:(∀ x∈b.p,-1≤x∧x≤65535)∧OneB b.p
   ·rw[qeX a3] at s2
    have s3:=qko a2 (by omega)
    by_cases a4:qqO b
    ·rw[qeX a4] at s3
     rw[qdt ⟨a1.1,a1.2,a2,a3.1,a3.2,a4⟩]
     exact qpX (h1:=s1) (hs:=hs) (hl:=hl) (h2:=s2) (h3:=s3)
    ·rw[qe0 a4] at s3
     rw[qaP fun V=>a4 V.kid]
     exact qqc (h1:=s1) (hs:=hs) (hl:=hl) (h2:=s2) (h3:=s3)
   ·rw[qe0 a3] at s2
    rw[qaP fun V=>a3 ⟨V.rng,V.one⟩]
    exact qpT (h1:=s1) (hs:=hs) (hl:=hl) (h2:=s2)
  ·rw[qaP fun V=>a2 V.w]
   exact qmk (h1:=s1) (hs:=hs) (hl:=by simp;omega)
 ·rw[if_neg a1] at s1
  rw[qaP fun V=>a1 ⟨V.n1,V.n2⟩]
  exact qkF (h1:=s1)
def InF (s:List Pt) (x:Int):Prop:=x = -1∨∃ q∈s,q.id=x
section
variable {s:List Pt} {tn td:Int} (htn:I64 tn) (htd:I64 td) (hs:Val s) (ht:okB tn td=true)
theorem qru {x y:Int} (hs:Val s) {p q:Pt} (hp:p∈s) (hq:q∈s) (ex:p.id=x) (ey:q.id=y):won s tn td x y=if ld tn td p q=true then x else y:=by
 have h1:=qdA hs hp
 have h2:=qdA hs hq
 have e1:idP s x=p:=by rw[← ex];exact qg8 hs hp
 have e2:idP s y=q:=by rw[← ey];exact qg8 hs hq
 unfold won
 rw[if_neg (by omega),e1,e2]
 by_cases h:ld tn td p q=true
 ·rw[if_pos (Or.inr h),if_pos h]
 ·rw[if_neg (fun k=>k.elim (fun k=>by omega) h),if_neg h]
theorem qlI {x y:Int} (hx:InF s x) (hy:InF s y):InF s (won s tn td x y):=by
 rcases qiH (s:=s) (tn:=tn) (td:=td) x y with e | e<;>rw[e]<;>assumption
include htn htd hs ht in
theorem qij {x y:Int} (hx:InF s x) (hy:InF s y):Fn 68 3 [.pv (iV x),.pv (iV y),.pp 1 0,.pp 2 0] [(0,0,.mrow (byV s)),(1,0,.mp 0),(2,0,.pv (iV tn)),(2,1,.pv (iV td))] (.pv (iV (won s tn td x y))) 0 []:=by
 rcases hx with rfl | ⟨p,hp,ex⟩
 ·have e:won s tn td (-1) y=y:=by unfold won;rw[if_pos (by omega)]
  rw[e]
  exact qso (hx:=by simp)
 ·have p0:=qdA hs hp
  have hx':(x==-1)=false:=by simp;omega
  rcases hy with rfl | ⟨q,hq,ey⟩
  ·have e:won s tn td x (-1)=x:=by unfold won;rw[if_neg (by omega),if_pos (Or.inl (by omega))]
   rw[e]
   exact qsr (hx:=hx') (hy:=by simp)
  ·have q0:=qdA hs hq
   have hy':(y==-1)=false:=by simp;omega
   rw[qru hs hp hq ex ey]
   have l1:=qid hs hp ex false
   have l2:=qid hs hq ey false
   by_cases hne:p.id=q.id
   ·have hpq:p=q:=qii hs hp hq hne
    have hf:ld tn td p q=false:=by
     subst hpq
     unfold ld
     rw[qcq]
     omega
    rw[if_neg (by rw[hf];decide)]
    have c1:=qbd (hs.ok p hp)
    have c2:=qbd (hs.ok q hq)
    exact qsw (hx:=hx') (hy:=hy') (hp:=l1) (hq:=l2) (ha:=qnS (e4:=2) (h1:=c1) (h2:=c2) (h3:=qev htn htd ht) (h4:=qkR (h:=by simpa using hne)) (he:=by decide))
   ·have ha:=qkP htn htd (hs.ok p hp) (hs.ok q hq) ht hne
    cases h:ld tn td p q
    ·rw[if_neg (by decide)]
     rw[show qcc _ _ _ _ _ _=ld tn td p q from rfl,h] at ha
     exact qr0 (hx:=hx') (hy:=hy') (hp:=l1) (hq:=l2) (ha:=ha)
    ·rw[if_pos rfl]
     rw[show qcc _ _ _ _ _ _=ld tn td p q from rfl,h] at ha
     exact qrN (hx:=hx') (hy:=hy') (hp:=l1) (hq:=l2) (ha:=ha)
theorem qql {p:List Int} (h:KnB s p) {x:Int} (hx:x∈p):InF s x:=by
 by_cases h0:x = -1
 ·exact Or.inl h0
 ·exact Or.inr (h x hx h0)
structure Mk (s:List Pt) (tn td:Int) (p m:List Int) (k:Nat):Prop where
 len:m.length+1=p.length
 rt:∀ i,k≤i→i<m.length→(⟨p,m⟩:Br).nd i=won s tn td ((⟨p,m⟩:Br).nd (2*i+1)) ((⟨p,m⟩:Br).nd (2*i+2))
 inf:∀ i,k≤i→i≤2*m.length→InF s ((⟨p,m⟩:Br).nd i)
theorem Mk.zero {p:List Int} {n:Nat} (hn:n+1=p.length) (hk:KnB s p):Mk s tn td p (List.replicate n 0) n:=by
 have hl:(List.replicate n (0:Int)).length=n:=List.length_replicate
 refine⟨by omega,fun i h1 h2=>by omega,fun i h1 h2=>?_⟩
 rw[qaO (b:=⟨p,List.replicate n 0⟩) (by show (List.replicate n (0:Int)).length≤i;omega)]
 exact qql hk (List.mem_of_getElem? (getD_some (by show i-(List.replicate n (0:Int)).length<p.length;omega)))
theorem Mk.next {p m:List Int} {k:Nat} (M:Mk s tn td p m (k+1)) (hk:k<m.length):Mk s tn td p (m.set k (won s tn td ((⟨p,m⟩:Br).nd (2*k+1)) ((⟨p,m⟩:Br).nd (2*k+2)))) k:=by
 have hl:(m.set k (won s tn td ((⟨p,m⟩:Br).nd (2*k+1)) ((⟨p,m⟩:Br).nd (2*k+2)))).length=m.length:=List.length_set
 have ns:∀ i,(⟨p,m.set k (won s tn td ((⟨p,m⟩:Br).nd (2*k+1)) ((⟨p,m⟩:Br).nd (2*k+2)))⟩:Br).nd i=if i=k then won s tn td ((⟨p,m⟩:Br).nd (2*k+1)) ((⟨p,m⟩:Br).nd (2*k+2)) else (⟨p,m⟩:Br).nd i:=fun i=>qcV (b:=⟨p,m⟩) hk
 refine⟨by rw[hl];exact M.len,fun i h1 h2=>?_,fun i h1 h2=>?_⟩
 ·rw[hl] at h2
  rw[ns,ns,ns,if_neg (show ¬ 2*i+1=k by omega),if_neg (show ¬ 2*i+2=k by omega)]
  by_cases e:i=k
  ·rw[if_pos e,e]
  ·rw[if_neg e];exact M.rt i (by omega) h2
 ·rw[hl] at h2
  rw[ns]
  by_cases e:i=k
  ·rw[if_pos e];exact qlI (M.inf _ (by omega) (by omega)) (M.inf _ (by omega) (by omega))
  ·rw[if_neg e];exact M.inf i (by omega) h2
theorem Mk.all {p m:List Int} (M:Mk s tn td p m 0) (n1:1≤p.length):m=(bld s tn td p).w:=by
 have:=qip (s:=s) (tn:=tn) (td:=td) (b:=⟨p,m⟩) (b':=bld s tn td p) (fun i hi=>M.rt i (Nat.zero_le _) hi) (qcv n1) rfl (by rw[qcI];show m.length=_;have:=M.len;omega)
 exact congrArg Br.w this
include htn htd hs ht in
theorem qha {p:List Int} (hl:p.length≤100000) {n:Nat} (hn:n+1=p.length):∀ (k:Nat) (m:List Int) (z:Int),k≤n→m.length=n→z=(k:Int)-1→Mk s tn td p m k→
 Rl 4 4 41 0 30 5 [(0,.ls 0 p.length),(1,.pc 68 [.pp 2 0,.pp 3 0]),(5,.ls 4 n),(6,.pv (iV z))] [(0,0,zrI p),(1,0,.mrow (byV s)),(2,0,.mp 1),(3,0,.pv (iV tn)),(3,1,.pv (iV td)),(4,0,.row 3 1 n (ziV m))]
  (.exit 0) [(5,.ls 4 n)] [(0,0,zrI p),(1,0,.mrow (byV s)),(2,0,.mp 1),(3,0,.pv (iV tn)),(3,1,.pv (iV td)),(4,0,.row 3 1 n (ziV (bld s tn td p).w))]
 | 0,m,z,_,_,hz,M=>by
  have:=M.all (by omega)
  subst this
  exact qnQ (h0:=df (by omega))
 | k+1,m,z,hk,hm,hz,M=>by
  have hzk:z=(k:Int):=by omega
  have ht':z.toNat=k:=by omega
  have r:=qha hl hn k _ (z-1) (by omega) (by rw[List.length_set];exact hm) (by omega) (M.next (by omega))
  rw[← ht'] at r
  refine qk4 (h0:=dt (by omega)) (hc:=?_) (hw:=qij htn htd hs ht (M.inf (2*k+1) (by omega) (by omega)) (M.inf (2*k+2) (by omega) (by omega))) (hix:=⟨by omega,by omega⟩) (hg:=by omega) (hd:=qbl (by omega) (by omega)) (by rw[ht'] at r ⊢;exact r)
  exact qgi (b:=⟨p,m⟩) hm rfl hn hl (i:=k) (by omega) hzk
include htn htd hs ht in
theorem qhd {p:List Int} (n1:1≤p.length) (hl:p.length≤100000) (hk:KnB s p):Fn 41 4 [.ls 0 p.length,.pc 68 [.pp 2 0,.pp 3 0]] [(0,0,zrI p),(1,0,.mrow (byV s)),(2,0,.mp 1),(3,0,.pv (iV tn)),(3,1,.pv (iV td))]
 (.ls 4 (p.length-1)) 1 [(4,0,.row 3 1 (p.length-1) (ziV (bld s tn td p).w))]:=
 qkf (z:=((p.length-1:Nat):Int)-1) (hs:=by rw[qbl (by omega) (by omega)];congr 1;omega) (n0:=by omega) (n1:=by omega) (hd:=qbl (by omega) (by omega))
  (r0:=qha htn htd hs ht hl (by omega) (p.length-1) _ _ (Nat.le_refl _) List.length_replicate rfl (Mk.zero (by omega) hk))
end
end Go.Proofs.Ytgbmdijodlfcaaa
