/-
  Joined: Qi, Qn, Qm, Qp, Qo. Conditions: none.
-/
import Derived.Test.YtgbmdijodlfcaaaQh
import Derived.Test.YtgbmdijodlfcaaaW21
import Derived.Test.YtgbmdijodlfcaaaZj
import Derived.Test.YtgbmdijodlfcaaaW24
import Derived.Test.YtgbmdijodlfcaaaW25
namespace Go.Proofs.Ytgbmdijodlfcaaa
set_option maxRecDepth 100000
open Go.RowKit
theorem qkK {l:List Int} (hn:l.length≤1000000):Fn 27 2 [.ls 0 l.length,.ls 1 l.length] [(0,0,zrI l),(1,0,zrI l)] (.pv (.bool true)) 0 []:=
 qn3 (hl:=by simp) (r0:=RunsL.roundsZ (N:=l.length) (fun k=>[(0,.ls 0 l.length),(1,.ls 1 l.length),(5,.pv (iV (k:Int)))]) (fun _=>[(0,0,zrI l),(1,0,zrI l)]) l.length 0 (by omega) (fun k _ hk r=>by
  obtain⟨x,hx⟩:=qaj hk
  exact qk6 (hk:=hx) (hin:=qas hk) (hlt:=dt (by omega)) (hne:=by simp) (hs:=qah (by omega)) r) (qn0 (hge:=df (by omega))))
def qnm (b:Br):Bool:=decide (70<b.p.length∨70<b.w.length)
theorem qon (b:Br):Fn 20 2 [brS 0 1 b] [(0,0,zrI b.p),(1,0,zrI b.w)] (.pv (.bool (qnm b))) 0 []:=by
 by_cases h1:70<b.p.length
 ·rw[show qnm b=true from dt (Or.inl h1)];exact qrz (h1:=dt (by omega))
 ·by_cases h2:70<b.w.length
  ·rw[show qnm b=true from dt (Or.inr h2)];exact qq6 (h1:=df (by omega)) (h2:=dt (by omega))
  ·rw[show qnm b=false from df (by omega)];exact qo1 (h1:=df (by omega)) (h2:=df (by omega))
theorem qmI {b:Br} (h:qnm b=false):b.p.length≤70∧b.w.length≤70:=by
 have:=of_decide_eq_false h
 omega
theorem qgz {b:Br} {n j:Nat} (hn:b.w.length=n) (hj:b.p.length=j) (hw:n+1=j) (hl:j≤100000) {i:Nat} (hi:i≤2*n) {z:Int} (hz:z=(i:Int)) :
 Fn 52 2 [.ag [.ls 0 j,.ls 1 n],.pv (iV z)] [(0,0,.row 3 1 j (ziV b.p)),(1,0,.row 3 1 n (ziV b.w))] (.pv (iV (b.nd i))) 0 []:=by
 by_cases h:i<n
 ·exact qpS (h1:=dt (by omega)) (hin:=⟨by omega,by omega⟩) (hk:=by rw[hz,show (i:Int).toNat=i from rfl];exact qa5 (by omega))
 ·exact qnj (y:=((i-n:Nat):Int)) (h1:=df (by omega)) (hs:=by rw[qbl (by omega) (by omega)];congr 1;omega) (hin:=⟨by omega,by omega⟩) (hk:=by
   have:=qg0 (b:=b) (i:=i) (by omega) (by omega)
   rw[hn] at this;exact this)
theorem qhm {l:List Int} (hn:l.length≤1000000):Fn 31 1 [.ls 0 l.length] [(0,0,zrI l)] (.pv (.bool (pB (¬ OneB l)))) 0 []:=by
 have inner:∀ (i:Nat) (x:Int),l[i]?=some x→∀ k,k≤i→(∀ j,j<k→∀ y,l[j]?=some y→¬ (0≤x∧y=x))→∀ {e:Exit} {tm2:TmL} {hp2:HpL},
  Rl 1 1 31 1 32 1 [(0,.ls 0 l.length),(3,.pv (iV (i:Int))),(4,.pv (iV (k:Int)))] [(0,0,zrI l)] e tm2 hp2→
  Rl 1 1 31 1 32 1 [(0,.ls 0 l.length),(3,.pv (iV (i:Int))),(4,.pv (iV ((0:Nat):Int)))] [(0,0,zrI l)] e tm2 hp2:=by
  intro i x hx k hk hno e tm2 hp2 r
  refine RunsL.rounds (fun j=>[(0,.ls 0 l.length),(3,.pv (iV (i:Int))),(4,.pv (iV (j:Int)))]) (fun _=>[(0,0,zrI l)]) (N:=k) k 0 (Nat.zero_add _) (fun j _ hj r=>?_) r
  have hil:=qaq hx
  obtain⟨y,hy⟩:=qaj (l:=l) (k:=j) (by omega)
  have hn':=hno j hj y hy
  by_cases h0:0≤x
  ·exact qm5 (hki:=dt (by omega)) (hi:=hx) (hii:=qas hil) (hk:=hy) (hin:=qas (by omega)) (h0:=dt h0) (he:=by simp;exact fun e=>hn' ⟨h0,e⟩) (hs:=qah (by omega)) r
  ·exact qnL (hki:=dt (by omega)) (hi:=hx) (hii:=qas hil) (hk:=hy) (hin:=qas (by omega)) (h0:=df h0) (hs:=qah (by omega)) r
 have row:∀ (i:Nat) (x:Int),l[i]?=some x→((∀ j,j<i→∀ y,l[j]?=some y→¬ (0≤x∧y=x))∧Rl 1 1 31 1 32 1 [(0,.ls 0 l.length),(3,.pv (iV (i:Int))),(4,.pv (iV ((0:Nat):Int)))] [(0,0,zrI l)] (.exit 2) [(0,.ls 0 l.length),(3,.pv (iV (i:Int)))] [(0,0,zrI l)])∨
  ((∃ j,j<i∧l[j]?=some x∧0≤x)∧Rl 1 1 31 1 32 1 [(0,.ls 0 l.length),(3,.pv (iV (i:Int))),(4,.pv (iV ((0:Nat):Int)))] [(0,0,zrI l)] .ret [(2,.pv (.bool true))] []):=by
  intro i x hx
  rcases qaC (fun j=>∀ y,l[j]?=some y→¬ (0≤x∧y=x)) i with h | ⟨j,hj,hb,hf⟩
  ·exact Or.inl ⟨h,inner i x hx i (Nat.le_refl _) h (qj6 (hki:=df (by omega)))⟩
  ·simp only[Classical.not_forall,Classical.not_not] at hb
   obtain⟨y,hy,h0,rfl⟩:=hb
   have hil:=qaq hx
   exact Or.inr ⟨⟨j,hj,hy,h0⟩,inner i y hx j (by omega) hf (qmZ (hki:=dt (by omega)) (hi:=hx) (hii:=qas hil) (hk:=hy) (hin:=qas (by omega)) (h0:=dt h0) (he:=by simp))⟩
 have outer:∀ k,(∀ i,i<k→∀ x,l[i]?=some x→¬ ∃ j,j<i∧l[j]?=some x∧0≤x)→k≤l.length→∀ {e:Exit} {tm2:TmL} {hp2:HpL},
  Rl 1 1 31 0 32 1 [(0,.ls 0 l.length),(3,.pv (iV (k:Int)))] [(0,0,zrI l)] e tm2 hp2→
  Rl 1 1 31 0 32 1 [(0,.ls 0 l.length),(3,.pv (iV ((0:Nat):Int)))] [(0,0,zrI l)] e tm2 hp2:=by
  intro k hk hkl e tm2 hp2 r
  refine RunsL.rounds (fun j=>[(0,.ls 0 l.length),(3,.pv (iV (j:Int)))]) (fun _=>[(0,0,zrI l)]) (N:=k) k 0 (Nat.zero_add _) (fun i _ hi r=>?_) r
  obtain⟨x,hx⟩:=qaj (l:=l) (k:=i) (by omega)
  rcases row i x hx with ⟨_,r1⟩ | ⟨h,_⟩
  ·exact qky (hlt:=dt (by omega)) (r1:=r1) (hs:=qah (by omega)) r
  ·exact (hk i hi x hx h).elim
 rcases qaC (fun i=>∀ x,l[i]?=some x→¬ ∃ j,j<i∧l[j]?=some x∧0≤x) l.length with h | ⟨i,hi,hb,hf⟩
 ·have ho:OneB l:=fun i j x e1 e2 h0=>by
   rcases Nat.lt_trichotomy i j with a | a | a
   ·exact (h j (qaq e2) x e2 ⟨i,a,e1,h0⟩).elim
   ·exact a
   ·exact (h i (qaq e1) x e1 ⟨j,a,e2,h0⟩).elim
  rw[qe0 fun k=>k ho]
  exact qpz (r0:=outer l.length h (Nat.le_refl _) (qms (hge:=df (by omega))))
 ·simp only[Classical.not_forall,Classical.not_not] at hb
  obtain⟨x,hx,j,hj,hjx,h0⟩:=hb
  rw[qeX fun k=>by
   have:=k i j x hx hjx h0
   omega]
  refine qou (r0:=outer i hf (by omega) ?_)
  rcases row i x hx with ⟨h,_⟩ | ⟨_,r1⟩
  ·exact (h j hj x hjx ⟨h0,rfl⟩).elim
  ·exact qod (hlt:=dt (by omega)) (r1:=r1)
theorem qr1 {b:Br} (h1:b.p.length≤70) (h2:b.w.length≤70):qfX 26 b:=by
 unfold qfX
 by_cases a1:b.p.length<1
 ·rw[qaP fun V=>by have:=V.n1;omega]
  exact qpI (h1:=dt (by omega))
 ·by_cases a2:b.p.length>64
  ·rw[qaP fun V=>by have:=V.n2;omega]
   exact qqi (h1:=df (by omega)) (hh:=dt (by omega))
  ·have hs:iV (IntKind.i64.wrap ((b.p.length:Int)-1))=iV ((b.p.length:Int)-1):=qbl (by omega) (by omega)
   by_cases a3:b.w.length+1=b.p.length
   ·have hl:((b.w.length:Int) !=(b.p.length:Int)-1)=false:=by simp;omega
    have t:=qhm (l:=b.p) (by omega)
    by_cases a4:OneB b.p
    ·rw[qe0 fun k=>k a4] at t
     have hp1:decide ((b.p.length:Int)<1)=false:=df (by omega)
     have hp2:decide ((b.p.length:Int)>64)=false:=df (by omega)
     have step1:∀ k,(∀ j,j<k→∀ x,b.p[j]?=some x→-1≤x∧x≤65535)→∀ {e:Exit} {tm2:TmL} {hp2:HpL},k≤b.p.length→
      Rl 2 2 26 0 98 3 [(1,.pp 2 0),(3,.pv (iV (b.p.length:Int))),(4,.pv (iV (k:Int)))] [(2,0,.ls 0 b.p.length),(2,1,.ls 1 b.w.length),(0,0,zrI b.p),(1,0,zrI b.w)] e tm2 hp2→
      Rl 2 2 26 0 98 3 [(1,.pp 2 0),(3,.pv (iV (b.p.length:Int))),(4,.pv (iV ((0:Nat):Int)))] [(2,0,.ls 0 b.p.length),(2,1,.ls 1 b.w.length),(0,0,zrI b.p),(1,0,zrI b.w)] e tm2 hp2:=by
      intro k hk e tm2 hp2 hkl r
      refine RunsL.rounds (fun j=>[(1,.pp 2 0),(3,.pv (iV (b.p.length:Int))),(4,.pv (iV (j:Int)))]) (fun _=>[(2,0,.ls 0 b.p.length),(2,1,.ls 1 b.w.length),(0,0,zrI b.p),(1,0,zrI b.w)]) (N:=k) k 0 (Nat.zero_add _) (fun j _ hj r=>?_) r
      obtain⟨x,hx⟩:=qaj (l:=b.p) (k:=j) (by omega)
      obtain⟨q1,q2⟩:=hk j hj x hx
      exact qrA (hk:=hx) (hin:=qas (qaq hx)) (hlt:=dt (by omega)) (hlo:=df (by omega)) (hhi:=df (by omega)) (hs:=qah (by omega)) r
     rcases qaC (fun j=>∀ x,b.p[j]?=some x→-1≤x∧x≤65535) b.p.length with h | ⟨j,hj,hb,hf⟩
     ·have hr:∀ x∈b.p,-1≤x∧x≤65535:=fun x hx=>by
       obtain⟨k,hk,rfl⟩:=List.getElem_of_mem hx
       exact h k hk _ (List.getElem?_eq_getElem hk)
      have l1:=step1 b.p.length h (Nat.le_refl _) (qj2 (hge:=df (by omega)))
      have nx:∀ j,j<b.w.length→Fn 52 2 [.ag [.ls 0 b.p.length,.ls 1 b.w.length],.pv (iV (2*(j:Int)+1))] [(0,0,.row 3 1 b.p.length (ziV b.p)),(1,0,.row 3 1 b.w.length (ziV b.w))] (.pv (iV (b.nd (2*j+1)))) 0 []:=fun j hj=>qgz rfl rfl a3 (by omega) (i:=2*j+1) (by omega) (by omega)
      have ny:∀ j,j<b.w.length→Fn 52 2 [.ag [.ls 0 b.p.length,.ls 1 b.w.length],.pv (iV (2*(j:Int)+2))] [(0,0,.row 3 1 b.p.length (ziV b.p)),(1,0,.row 3 1 b.w.length (ziV b.w))] (.pv (iV (b.nd (2*j+2)))) 0 []:=fun j hj=>qgz rfl rfl a3 (by omega) (i:=2*j+2) (by omega) (by omega)
      have wm:∀ j,j<b.w.length→iV (IntKind.i64.wrap (2*(j:Int)))=iV (2*(j:Int)):=fun j hj=>qbl (by omega) (by omega)
      have wa:∀ j,j<b.w.length→iV (IntKind.i64.wrap (2*(j:Int)+1))=iV (2*(j:Int)+1):=fun j hj=>qbl (by omega) (by omega)
      have wb:∀ j,j<b.w.length→iV (IntKind.i64.wrap (2*(j:Int)+2))=iV (2*(j:Int)+2):=fun j hj=>qbl (by omega) (by omega)
      have step2:∀ k,(∀ j,j<k→(b.nd j=b.nd (2*j+1)∨b.nd j=b.nd (2*j+2))∧(b.nd j = -1→b.nd (2*j+1) = -1∧b.nd (2*j+2) = -1))→∀ {e:Exit} {tm2:TmL} {hp2:HpL},k≤b.w.length→
       Rl 2 2 26 1 98 3 [(1,.pp 2 0),(5,.pv (iV (k:Int)))] [(2,0,.ls 0 b.p.length),(2,1,.ls 1 b.w.length),(0,0,zrI b.p),(1,0,zrI b.w)] e tm2 hp2→
       Rl 2 2 26 1 98 3 [(1,.pp 2 0),(5,.pv (iV ((0:Nat):Int)))] [(2,0,.ls 0 b.p.length),(2,1,.ls 1 b.w.length),(0,0,zrI b.p),(1,0,zrI b.w)] e tm2 hp2:=by
       intro k hk e tm2 hp2 hkl r
       refine RunsL.rounds (fun j=>[(1,.pp 2 0),(5,.pv (iV (j:Int)))]) (fun _=>[(2,0,.ls 0 b.p.length),(2,1,.ls 1 b.w.length),(0,0,zrI b.p),(1,0,zrI b.w)]) (N:=k) k 0 (Nat.zero_add _) (fun j _ hj r=>?_) r
       have hjl:j<b.w.length:=by omega
       have hx:=qa5 hjl
       obtain⟨q1,q2⟩:=hk j hj
       by_cases c1:b.nd j=b.nd (2*j+1)
       ·by_cases c3:b.nd j = -1
        ·obtain⟨d1,d2⟩:=q2 c3
         exact qoV (hk:=hx) (hin:=qas hjl) (hlt:=dt (by omega)) (hm:=wm j hjl) (ha:=wa j hjl) (hx:=nx j hjl) (hb:=wb j hjl) (hy:=ny j hjl) (q1:=by simp[c1]) (q3:=by simp[c3]) (q5:=by simp[d1]) (q6:=by simp[d2]) (hs:=qah (by omega)) r
        ·exact qpb (hk:=hx) (hin:=qas hjl) (hlt:=dt (by omega)) (hm:=wm j hjl) (ha:=wa j hjl) (hx:=nx j hjl) (hb:=wb j hjl) (hy:=ny j hjl) (q1:=by simp[c1]) (q3:=by simpa using c3) (hs:=qah (by omega)) r
       ·have c2:=q1.resolve_left c1
        have c3:¬ b.nd j = -1:=fun c3=>c1 (by have:=(q2 c3).1;omega)
        exact qqB (hk:=hx) (hin:=qas hjl) (hlt:=dt (by omega)) (hm:=wm j hjl) (ha:=wa j hjl) (hx:=nx j hjl) (hb:=wb j hjl) (hy:=ny j hjl) (q1:=by simpa using c1) (q2:=by simp[c2]) (q3:=by simpa using c3) (hs:=qah (by omega)) r
      rcases qaC (fun j=>(b.nd j=b.nd (2*j+1)∨b.nd j=b.nd (2*j+2))∧(b.nd j = -1→b.nd (2*j+1) = -1∧b.nd (2*j+2) = -1)) b.w.length with h' | ⟨j,hj,hb,hf⟩
      ·rw[qdt ⟨by omega,by omega,a3,hr,a4,h'⟩]
       exact qpf (h1:=hp1) (hh:=hp2) (hs:=hs) (hl:=hl) (h2:=t) (r0:=l1) (r1:=step2 b.w.length h' (Nat.le_refl _) (qlj (hge:=df (by omega))))
      ·rw[qaP fun V=>hb (V.kid j hj)]
       refine qsm (h1:=hp1) (hh:=hp2) (hs:=hs) (hl:=hl) (h2:=t) (r0:=l1) (r1:=step2 j hf (by omega) ?_)
       have hx:=qa5 hj
       by_cases c1:b.nd j=b.nd (2*j+1)
       ·have c3:b.nd j = -1:=Classical.byContradiction fun c3=>hb ⟨Or.inl c1,fun e=>(c3 e).elim⟩
        have c4:b.nd (2*j+2)≠-1:=fun c4=>hb ⟨Or.inl c1,fun e=>⟨by omega,c4⟩⟩
        exact qqr (hk:=hx) (hin:=qas hj) (hlt:=dt (by omega)) (hm:=wm j hj) (ha:=wa j hj) (hx:=nx j hj) (hb:=wb j hj) (hy:=ny j hj) (q1:=by simp[c1]) (q3:=by simp[c3]) (q5:=by simp;omega) (q6:=by simpa using c4)
       ·by_cases c2:b.nd j=b.nd (2*j+2)
        ·have c3:b.nd j = -1:=Classical.byContradiction fun c3=>hb ⟨Or.inr c2,fun e=>(c3 e).elim⟩
         exact qpE (hk:=hx) (hin:=qas hj) (hlt:=dt (by omega)) (hm:=wm j hj) (ha:=wa j hj) (hx:=nx j hj) (hb:=wb j hj) (hy:=ny j hj) (q1:=by simpa using c1) (q2:=by simp[c2]) (q3:=by simp[c3]) (q5:=by simp;omega)
        ·exact qoU (hk:=hx) (hin:=qas hj) (hlt:=dt (by omega)) (hm:=wm j hj) (ha:=wa j hj) (hx:=nx j hj) (hb:=wb j hj) (hy:=ny j hj) (q1:=by simpa using c1) (q2:=by simpa using c2)
     ·simp only[Classical.not_forall] at hb
      obtain⟨x,hx,hno⟩:=hb
      rw[qaP fun V=>hno (V.rng x (List.mem_of_getElem? hx))]
      refine qsa (h1:=hp1) (hh:=hp2) (hs:=hs) (hl:=hl) (h2:=t) (r0:=step1 j hf (by omega) ?_)
      by_cases c:x < -1
      ·exact qnc (hk:=hx) (hin:=qas hj) (hlt:=dt (by omega)) (hlo:=dt c)
      ·exact qol (hk:=hx) (hin:=qas hj) (hlt:=dt (by omega)) (hlo:=df c) (hhi:=dt (by omega))
    ·rw[qeX a4] at t
     rw[qaP fun V=>a4 V.one]
     exact qmy (h1:=df (by omega)) (hh:=df (by omega)) (hs:=hs) (hl:=hl) (h2:=t)
   ·rw[qaP fun V=>a3 V.w]
    exact qmE (h1:=df (by omega)) (hh:=df (by omega)) (hs:=hs) (hl:=by simp;omega)
section
variable {s:List Pt} {tn td:Int} (htn:I64 tn) (htd:I64 td)
theorem qiJ (hs:Val s) (i:Int):∃ u,Fn 58 1 [qaz 0 s,.pv (iV i)] [(0,0,qal s)] (.pv (iV u)) 0 []∧((u<0∧¬ ∃ q∈s,q.id=i)∨(0≤u∧∃ q∈s,q.id=i)):=by
 by_cases h:∃ q∈s,q.id=i
 ·obtain⟨q,hq,he⟩:=h
  obtain⟨k,hk,hkq⟩:=List.getElem_of_mem hq
  exact⟨k,qqI hs (k:=k) (p:=q) (by rw[List.getElem?_eq_getElem hk,hkq]) he,Or.inr ⟨by omega,q,hq,he⟩⟩
 ·exact⟨-1,qrY hs.len (fun p hp e=>h ⟨p,hp,e⟩),Or.inl ⟨by omega,h⟩⟩
theorem qho (hs:Val s) {l:List Int} {n:Nat} (hl:l.length=n) (hn:n≤1000000):Fn 30 2 [qaz 0 s,.ls 1 n] [(0,0,qal s),(1,0,.row 3 1 n (ziV l))] (.pv (.bool (pB (KnB s l)))) 0 []:=by
 subst hl
 have step:∀ k,(∀ j,j<k→∀ x,l[j]?=some x→x≠-1→∃ q∈s,q.id=x)→∀ {e:Exit} {tm2:TmL} {hp2:HpL},k≤l.length→
  Rl 2 2 30 0 26 3 [(1,.ls 1 l.length),(2,.pp 2 0),(5,.pv (iV (k:Int)))] [(2,0,.ls 0 s.length),(0,0,qal s),(1,0,zrI l)] e tm2 hp2→
  Rl 2 2 30 0 26 3 [(1,.ls 1 l.length),(2,.pp 2 0),(5,.pv (iV ((0:Nat):Int)))] [(2,0,.ls 0 s.length),(0,0,qal s),(1,0,zrI l)] e tm2 hp2:=by
  intro k hk e tm2 hp2 hkl r
  refine RunsL.rounds (fun j=>[(1,.ls 1 l.length),(2,.pp 2 0),(5,.pv (iV (j:Int)))]) (fun _=>[(2,0,.ls 0 s.length),(0,0,qal s),(1,0,zrI l)]) (N:=k) k 0 (Nat.zero_add _) (fun j _ hj r=>?_) r
  obtain⟨x,hx⟩:=qaj (l:=l) (k:=j) (by omega)
  by_cases h0:x = -1
  ·exact qj0 (hk:=hx) (hin:=qas (qaq hx)) (hlt:=dt (by omega)) (hx:=by simp[h0]) (hs:=qah (by omega)) r
  ·obtain⟨u,a1,a2⟩:=qiJ hs x
   rcases a2 with ⟨_,a2⟩ | ⟨a2,_⟩
   ·exact (a2 (hk j hj x hx h0)).elim
   ·exact qkE (hk:=hx) (hin:=qas (qaq hx)) (hlt:=dt (by omega)) (hx:=by simpa using h0) (ha:=a1) (hv:=df (by omega)) (hs:=qah (by omega)) r
 rcases qaC (fun j=>∀ x,l[j]?=some x→x≠-1→∃ q∈s,q.id=x) l.length with h | ⟨j,hj,hb,hf⟩
 ·rw[qeX (p:=KnB s l) fun x hx=>by
   obtain⟨k,hk,rfl⟩:=List.getElem_of_mem hx
   exact h k hk _ (List.getElem?_eq_getElem hk)]
  exact qm9 (r0:=step l.length h (Nat.le_refl _) (qmN (hge:=df (by omega))))
 ·simp only[Classical.not_forall] at hb
  obtain⟨x,hx,h0,hno⟩:=hb
  rw[qe0 (p:=KnB s l) fun h=>hno (h x (List.mem_of_getElem? hx) h0)]
  obtain⟨u,a1,a2⟩:=qiJ hs x
  rcases a2 with ⟨a2,_⟩ | ⟨_,a2⟩
  ·exact qpQ (r0:=step j hf (by omega) (qk1 (hk:=hx) (hin:=qas hj) (hlt:=dt (by omega)) (hx:=by simpa using h0) (ha:=a1) (hv:=dt a2)))
  ·exact (hno a2).elim
variable {b:Br} {z x:Int}
end
end Go.Proofs.Ytgbmdijodlfcaaa

namespace Go.Proofs.Ytgbmdijodlfcaaa
set_option maxRecDepth 100000
open Go.ChangeShapes Go.WideShapes Go.ChangeAt Go.RowKit Go.Joins Go.Deep
theorem qkz:Try.prog.cellsOf 27=2:=by kernel_rfl
theorem qnw:Try.prog.readableRec 27=true:=by kernel_rfl
theorem qpl:27<Try.prog.types.size:=of_decide_eq_true (by kernel_rfl)
section
variable {H:Type} {enc:TypeId×Value→H} {W:World} {base:Nat} {spare:Nat→Bool} {held:Bool}
theorem qe3 {r:Reach} {b0:Nat} {v:Value} {d:DataW H} {p:List MemPlace} (hv:Value.okWide Try.prog W r b0 27 v) (h:DataW.Trod enc Try.prog W base spare held 27 v d p) :
 ∃ (b:Br) (u0 u1:Value),v=.agg #[u0,u1]∧Rd W 1 u0 b.p.length (ziV b.p)∧Rd W 1 u1 b.w.length (ziV b.w):=by
 obtain⟨cs,rfl,hsz⟩:=okWide_struct Try.underlying27 hv
 obtain⟨fuel,hf⟩:=h
 obtain⟨y0,y1,n,_,hlen,h0,h1⟩:=trod_struct2 Try.underlying27 hf
 obtain⟨u0,l0,hc0,r0,_⟩:=qd3 h0
 obtain⟨u1,l1,hc1,r1,_⟩:=qd3 h1
 refine⟨⟨l0,l1⟩,u0,u1,?_,r0,r1⟩
 rw[qrW] at hc0 hc1
 have hs:cs.size=2:=hsz.trans qkz
 obtain⟨L⟩:=cs
 match L,hs with
 | [c0,c1],_=>
  simp[Value.cells] at hc0 hc1
  rw[hc0,hc1]
end
section
variable {W:World} {f:FuncId} {s:List Pt} {l:List Int} {b:Br} {u u0 u1 v:Value} {vs:List Value} {t:Value}
theorem qrS (h:Fn f 3 (brS 0 1 b::qaz 2 s::vs.map .pv) [(0,0,zrI b.p),(1,0,zrI b.w),(2,0,qal s)] (.pv (.bool true)) 0 [])
 (h0:Rd W 1 u0 b.p.length (ziV b.p)) (h1:Rd W 1 u1 b.w.length (ziV b.w)) (hs:Rd W 3 u s.length (qeY s)) :
 Calls Try.prog f (.agg #[u0,u1]::.agg #[u]::vs).toArray W fun e W'=>e=.returned (.bool true)∧Gr W W':=
 qk7 (rs:=[(3,1,b.p.length,ziV b.p),(3,1,b.w.length,ziV b.w),(68,3,s.length,qeY s)]) (us:=[u0,u1,u]) h
  (.cons h0 (qek b.p) (.cons h1 (qek b.w) (.cons hs (qh6 s) .nil))) ⟨⟨[u0,u1],⟨⟨rfl,h0.zsl⟩,⟨rfl,h1.zsl⟩,tI⟩,rfl⟩,⟨[u],⟨⟨rfl,hs.zsl⟩,tI⟩,rfl⟩,SV.isl_v vs⟩
end
end Go.Proofs.Ytgbmdijodlfcaaa

namespace Go.Proofs.Ytgbmdijodlfcaaa
set_option maxRecDepth 100000
open Go.RowKit
theorem qsj {z:Int} :
 Pure Try.prog 11 #[iV z] (qac z 1):=
 qan (args:=[iV z]) 300 []
  (Ai rfl tI) (by kernel_rfl)
theorem qsq :
 Fn 10 0 [] [] (.ag [.ls 0 3]) 1 [(0,0,qal qbB)]:=
 Fz [(0,1)] [.lw]
  (qcs (qaX [(0,1)]) [(0,0,qal qbB)]) tI
theorem qrk (hg:Fn 10 0 [] [] (.ag [.ls 0 3]) 1 [(0,0,qal qbB)]) (hat0:Pure Try.prog 11 #[iV (0)] (qac 0 1)) (hb:Fn 9 2 [qaz 0 qbB,.pv (qac 0 1),.ls 1 [1,2,-1,5].length] [(0,0,qal qbB),(1,0,zrI [1,2,-1,5])] (.tu [qls 2 3 (Br.mk [1,2,-1,5] [2,2,5]),.one (.pv (iV 0))]) 2 [(2,0,zrI (Br.mk [1,2,-1,5] [2,2,5]).p),(3,0,zrI (Br.mk [1,2,-1,5] [2,2,5]).w)]) (hw:Fn 12 2 [brS 0 1 (Br.mk [1,2,-1,5] [2,2,5])] [(0,0,zrI (Br.mk [1,2,-1,5] [2,2,5]).p),(1,0,zrI (Br.mk [1,2,-1,5] [2,2,5]).w)] (.pv (.tuple #[iV 2,iV 0])) 0 []) (hs:Fn 14 3 [brS 0 1 (Br.mk [1,2,-1,5] [2,2,5]),qaz 2 qbB,.pv (qac 0 1),.pv (iV (1)),.pv (iV (-1))] [(0,0,zrI (Br.mk [1,2,-1,5] [2,2,5]).p),(1,0,zrI (Br.mk [1,2,-1,5] [2,2,5]).w),(2,0,qal qbB)] (.tu [qls 3 4 (Br.mk [1,-1,-1,5] [1,1,5]),.one (.ls 5 [1,0].length),.one (.pv (iV 0))]) 3 [(3,0,zrI (Br.mk [1,-1,-1,5] [1,1,5]).p),(4,0,zrI (Br.mk [1,-1,-1,5] [1,1,5]).w),(5,0,zrI [1,0])]) (hp:Fn 13 2 [brS 0 1 (Br.mk [1,2,-1,5] [2,2,5]),.pv (iV (3))] [(0,0,zrI (Br.mk [1,2,-1,5] [2,2,5]).p),(1,0,zrI (Br.mk [1,2,-1,5] [2,2,5]).w)] (.tu [.one (.ls 2 [2,0].length),.one (.pv (iV 0))]) 1 [(2,0,zrI [2,0])]) (h1:Fn 27 2 [.ls 0 [2,2,5].length,.ls 1 [2,2,5].length] [(0,0,zrI [2,2,5]),(1,0,zrI [2,2,5])] (.pv (.bool true)) 0 []) (h2:Fn 27 2 [.ls 0 [1,1,5].length,.ls 1 [1,1,5].length] [(0,0,zrI [1,1,5]),(1,0,zrI [1,1,5])] (.pv (.bool true)) 0 []) (h3:Fn 27 2 [.ls 0 [1,0].length,.ls 1 [1,0].length] [(0,0,zrI [1,0]),(1,0,zrI [1,0])] (.pv (.bool true)) 0 []) (h4:Fn 27 2 [.ls 0 [2,0].length,.ls 1 [2,0].length] [(0,0,zrI [2,0]),(1,0,zrI [2,0])] (.pv (.bool true)) 0 []) :
 Fn 18 0 [] [] (.pv (.bool true)) 0 []:=
 qbV 600 [] [Cf hg [],Rf hat0,.lw,Cf hb [0,1],Cf hw [2,3],.md,Cf hg [],Rf hat0,Cf hs [2,3,5],Cf hp [2,3],.k,.lw,Cf h1 [3,11],.k,.k,.k,.lw,Cf h2 [7,12],.lw,Cf h3 [8,13],.k,.lw,Cf h4 [10,14]]
  tI (Co hg [] 0 (Ai hat0 (Co hb [0,1] 2 (Co hw [2,3] 5 (Co hg [] 5 (Ai hat0 (Co hs [2,3,5] 6 (Co hp [2,3] 10 (Co h1 [3,11] 12 (Co h2 [7,12] 13 (Co h3 [8,13] 14 (Co h4 [10,14] 15 tI)))))))))))) (by kernel_rfl)
theorem qmT {b:Br} {s:List Pt} {tn td:Int} (hg2:Fn 20 2 [brS 0 1 b] [(0,0,zrI b.p),(1,0,zrI b.w)] (.pv (.bool true)) 0 []) :
 Fn 33 3 [brS 0 1 b,qaz 2 s,.pv (qac tn td)] [(0,0,zrI b.p),(1,0,zrI b.w),(2,0,qal s)] (.pv (.bool false)) 0 []:=
 Fz [] [Cf hg2 [0,1],.k]
  tI (Co hg2 [0,1] 6 tI)
theorem qjp {b:Br} {s:List Pt} {tn td:Int} (hg2:Fn 20 2 [brS 0 1 b] [(0,0,zrI b.p),(1,0,zrI b.w)] (.pv (.bool false)) 0 []) (hg:Fn 19 1 [qaz 0 s] [(0,0,qal s)] (.pv (.bool true)) 0 []) :
 Fn 33 3 [brS 0 1 b,qaz 2 s,.pv (qac tn td)] [(0,0,zrI b.p),(1,0,zrI b.w),(2,0,qal s)] (.pv (.bool false)) 0 []:=
 Fz [] [Cf hg2 [0,1],.k,Cf hg [2],.k]
  tI (Co hg2 [0,1] 6 (Co hg [2] 6 tI))
abbrev qqT (s:List Pt):Prop:=Fn 19 1 [qaz 0 s] [(0,0,qal s)] (.pv (.bool false)) 0 []
theorem qnA {b:Br} {s:List Pt} {tn td:Int} (hg2:Fn 20 2 [brS 0 1 b] [(0,0,zrI b.p),(1,0,zrI b.w)] (.pv (.bool false)) 0 []) (hg:qqT s) (hc:Fn 26 2 [brS 0 1 b] [(0,0,zrI b.p),(1,0,zrI b.w)] (.pv (iV (8))) 0 []) :
 Fn 33 3 [brS 0 1 b,qaz 2 s,.pv (qac tn td)] [(0,0,zrI b.p),(1,0,zrI b.w),(2,0,qal s)] (.pv (.bool false)) 0 []:=
 Fz [] [Cf hg2 [0,1],.k,Cf hg [2],.k,Cf hc [0,1],.k]
  tI (Co hg2 [0,1] 6 (Co hg [2] 6 (Co hc [0,1] 6 tI)))
theorem qkA {b:Br} {s:List Pt} {tn td e:Int} (hg2:Fn 20 2 [brS 0 1 b] [(0,0,zrI b.p),(1,0,zrI b.w)] (.pv (.bool false)) 0 []) (hg:qqT s) (hc:Fn 26 2 [brS 0 1 b] [(0,0,zrI b.p),(1,0,zrI b.w)] (.pv (iV (0))) 0 []) (ht:Fn 29 1 [qaz 0 s,.pv (qac tn td)] [(0,0,qal s)] (.pv (iV (e))) 0 []) (he:(e==0)=false) :
 Fn 33 3 [brS 0 1 b,qaz 2 s,.pv (qac tn td)] [(0,0,zrI b.p),(1,0,zrI b.w),(2,0,qal s)] (.pv (.bool false)) 0 []:=
 Fz [] [Cf hg2 [0,1],.k,Cf hg [2],.k,Cf hc [0,1],.k,Cf ht [2],.t false]
  tI (Co hg2 [0,1] 6 (Co hg [2] 6 (Co hc [0,1] 6 (Co ht [2] 6 (Ai he tI)))))
theorem qpK {b:Br} {s:List Pt} {tn td:Int} (hg2:Fn 20 2 [brS 0 1 b] [(0,0,zrI b.p),(1,0,zrI b.w)] (.pv (.bool false)) 0 []) (hg:qqT s) (hc:Fn 26 2 [brS 0 1 b] [(0,0,zrI b.p),(1,0,zrI b.w)] (.pv (iV (0))) 0 []) (ht:Fn 29 1 [qaz 0 s,.pv (qac tn td)] [(0,0,qal s)] (.pv (iV (0))) 0 []) (hkn:Fn 30 2 [qaz 0 s,.ls 1 b.p.length] [(0,0,qal s),(1,0,zrI b.p)] (.pv (.bool false)) 0 []) :
 Fn 33 3 [brS 0 1 b,qaz 2 s,.pv (qac tn td)] [(0,0,zrI b.p),(1,0,zrI b.w),(2,0,qal s)] (.pv (.bool false)) 0 []:=
 Fz [] [Cf hg2 [0,1],.k,Cf hg [2],.k,Cf hc [0,1],.k,Cf ht [2],.k,Cf hkn [2,0]]
  tI (Co hg2 [0,1] 6 (Co hg [2] 6 (Co hc [0,1] 6 (Co ht [2] 6 (Co hkn [2,0] 6 tI)))))
theorem qn1 {b:Br} {s:List Pt} {tn td:Int} (hg2:Fn 20 2 [brS 0 1 b] [(0,0,zrI b.p),(1,0,zrI b.w)] (.pv (.bool false)) 0 []) (hg:qqT s) (hc:Fn 26 2 [brS 0 1 b] [(0,0,zrI b.p),(1,0,zrI b.w)] (.pv (iV (0))) 0 []) (ht:Fn 29 1 [qaz 0 s,.pv (qac tn td)] [(0,0,qal s)] (.pv (iV (0))) 0 []) (hkn:Fn 30 2 [qaz 0 s,.ls 1 b.p.length] [(0,0,qal s),(1,0,zrI b.p)] (.pv (.bool true)) 0 []) :
 Fn 33 3 [brS 0 1 b,qaz 2 s,.pv (qac tn td)] [(0,0,zrI b.p),(1,0,zrI b.w),(2,0,qal s)] (.pv (.bool true)) 0 []:=
 Fz [] [Cf hg2 [0,1],.k,Cf hg [2],.k,Cf hc [0,1],.k,Cf ht [2],.k,Cf hkn [2,0]]
  tI (Co hg2 [0,1] 6 (Co hg [2] 6 (Co hc [0,1] 6 (Co ht [2] 6 (Co hkn [2,0] 6 tI)))))
end Go.Proofs.Ytgbmdijodlfcaaa

namespace Go.Proofs.Ytgbmdijodlfcaaa
set_option maxRecDepth 100000
open Go.RowKit
theorem qeC (x:Int):(x !=x)=false:=by simp
abbrev bmP (l m:List Int) (pz id:Int) (j k:Nat):List (Nat×SV):=[(3,.pv (iV pz)),(4,.pv (iV id)),(5,.pp 3 0),(11,.pp 9 0),(12,.ls 8 l.length),(16,.ls 10 m.length),(20,.pv (iV (j:Int))),(21,.pv (iV (k:Int)))]
abbrev bmW (l m:List Int) (pz id:Int) (j k:Nat):List (Nat×SV):=[(3,.pv (iV pz)),(4,.pv (iV id)),(5,.pp 3 0),(11,.pp 9 0),(12,.ls 8 l.length),(16,.ls 10 m.length),(20,.pv (iV (j:Int))),(22,.pv (iV (k:Int)))]
abbrev bmI (l m:List Int) (pz id:Int) (j k:Nat) (w:Bool) (n:Nat):List (Nat×SV):=[(3,.pv (iV pz)),(4,.pv (iV id)),(5,.pp 3 0),(11,.pp 9 0),(12,.ls 8 l.length),(16,.ls 10 m.length),(20,.pv (iV (j:Int))),(22,.pv (iV (k:Int))),(23,.pv (.bool w)),(24,.pv (iV (n:Int)))]
abbrev qsz (l m:List Int) (pz id:Int) (j k:Nat) (w:Bool):List (Nat×SV):=[(3,.pv (iV pz)),(4,.pv (iV id)),(5,.pp 3 0),(11,.pp 9 0),(12,.ls 8 l.length),(16,.ls 10 m.length),(20,.pv (iV (j:Int))),(22,.pv (iV (k:Int))),(23,.pv (.bool w))]
abbrev bmH (b o:Br) (l m:List Int):List (Nat×Nat×SV):=[(3,0,.ls 0 b.p.length),(3,1,.ls 1 b.w.length),(9,0,.ls 6 o.p.length),(9,1,.ls 7 o.w.length),(0,0,zrI b.p),(1,0,zrI b.w),(6,0,zrI o.p),(7,0,zrI o.w),(8,0,zrI l),(10,0,zrI m)]
theorem qh7 {b:Br} {s:List Pt} {tn td pz id:Int} (hft:Fn 33 3 [brS 0 1 b,qaz 2 s,.pv (qac tn td)] [(0,0,zrI b.p),(1,0,zrI b.w),(2,0,qal s)] (.pv (.bool false)) 0 []) (hal:Pure Try.prog 18 #[] (.bool true)) :
 Fn 7 3 [brS 0 1 b,qaz 2 s,.pv (qac tn td),.pv (iV (pz)),.pv (iV (id))] [(0,0,zrI b.p),(1,0,zrI b.w),(2,0,qal s)] (.pv (.bool true)) 0 []:=
 Fz [] [Cf hft [0,1,2],.k,Rf hal]
  tI (Co hft [0,1,2] 6 (Ai hal tI))
theorem qmD {b o:Br} {m:List Int} {s:List Pt} {tn td e1 pz id:Int} {w:Bool} (hft:Fn 33 3 [brS 0 1 b,qaz 2 s,.pv (qac tn td)] [(0,0,zrI b.p),(1,0,zrI b.w),(2,0,qal s)] (.pv (.bool true)) 0 []) (h1:Fn 14 3 [brS 0 1 b,qaz 2 s,.pv (qac tn td),.pv (iV (pz)),.pv (iV (id))] [(0,0,zrI b.p),(1,0,zrI b.w),(2,0,qal s)] (.tu [qls 3 4 o,.one (.ls 5 m.length),.one (.pv (iV e1))]) 3 [(3,0,zrI o.p),(4,0,zrI o.w),(5,0,zrI m)]) (h2:Fn 15 3 [brS 0 1 b,qaz 2 s,.pv (qac tn td)] [(0,0,zrI b.p),(1,0,zrI b.w),(2,0,qal s)] (.pv (.tuple #[.bool w,iV 0])) 0 []) (he:(e1 !=0)=true) (hal:Pure Try.prog 18 #[] (.bool true)) :
 Fn 7 3 [brS 0 1 b,qaz 2 s,.pv (qac tn td),.pv (iV (pz)),.pv (iV (id))] [(0,0,zrI b.p),(1,0,zrI b.w),(2,0,qal s)] (.pv (.bool true)) 0 []:=
 Fz [] [Cf hft [0,1,2],.k,Cf h1 [0,1,2],Cf h2 [0,1,2],.t true,.k,Rf hal]
  tI (Co hft [0,1,2] 6 (Co h1 [0,1,2] 6 (Co h2 [0,1,2] 10 (Ai he (Ai hal tI)))))
abbrev qoY (id:Int) (j:Nat) (k:Nat) (l:List Int) (m:List Int) (pz:Int):TmL:=[(3,.pv (iV pz)),(4,.pv (iV id)),(5,.pp 3 0),(11,.pp 9 0),(12,.ls 8 l.length),(16,.ls 10 m.length),(20,.pv (iV (j:Int))),(21,.pv (iV (k:Int)))]
theorem qot {b o:Br} {l m:List Int} {j k:Nat} {x v pz id:Int} {u9:Int} (hlt:decide ((k:Int)<(m.length:Int))=true) (hin:0≤(k:Int)∧(k:Int)<(m.length:Int)) (hk:m[k]?=some x) (h0:decide (x<0)=false) (hx:decide (x≥(b.w.length:Int))=false) (hp:decide ((k:Int)>0)=false) (hixo:0≤x∧x<(o.w.length:Int)) (hix:0≤x∧x<(b.w.length:Int)) (hv:o.w[x.toNat]?=some v) (hu:b.w[x.toNat]?=some u9) (hvu:(v==u9)=true) (hs:iV (IntKind.i64.wrap ((k:Int)+1))=iV (((k+1:Nat):Int))) {e:Exit} {tm2:TmL} {hp2:HpL}
 (r:Rl 3 3 7 0 234 11 ([(3,.pv (iV pz)),(4,.pv (iV id)),(5,.pp 3 0),(11,.pp 9 0),(12,.ls 8 l.length),(16,.ls 10 m.length),(20,.pv (iV (j:Int))),(21,.pv (iV ((k+1:Nat):Int)))]) ([(3,0,.ls 0 b.p.length),(3,1,.ls 1 b.w.length),(9,0,.ls 6 o.p.length),(9,1,.ls 7 o.w.length),(0,0,zrI b.p),(1,0,zrI b.w),(6,0,zrI o.p),(7,0,zrI o.w),(8,0,zrI l),(10,0,zrI m)]) e tm2 hp2):Rl 3 3 7 0 234 11 (qoY id j k l m pz) ([(3,0,.ls 0 b.p.length),(3,1,.ls 1 b.w.length),(9,0,.ls 6 o.p.length),(9,1,.ls 7 o.w.length),(0,0,zrI b.p),(1,0,zrI b.w),(6,0,zrI o.p),(7,0,zrI o.w),(8,0,zrI l),(10,0,zrI m)]) e tm2 hp2:=
 RunsL.next [] 300 [.t true,.r (iV x),.t false,.r (iV x),.t false,.t false,.r (iV x),.r (iV v),.r (iV x),.r (iV u9),.t true,Re hs]
  (Ro (Ai hlt (Ai hin (Ai (qaE hk) (Ai h0 (Ai hin (Ai (qaE hk) (Ai hx (Ai hp (Ai hin (Ai (qaE hk) (Ai hixo (Ai (qb7 hv) (Ai hin (Ai (qaE hk) (Ai hix (Ai (qb7 hu) (Ai hvu (Ai hs tI))))))))))))))))))) r
abbrev qpt (id:Int) (j:Nat) (k:Nat) (l:List Int) (m:List Int) (pz:Int):TmL:=[(3,.pv (iV pz)),(4,.pv (iV id)),(5,.pp 3 0),(11,.pp 9 0),(12,.ls 8 l.length),(16,.ls 10 m.length),(20,.pv (iV ((j+1:Nat):Int))),(21,.pv (iV ((k+1:Nat):Int)))]
theorem qmF {b o:Br} {l m:List Int} {j k:Nat} {x v pz id:Int} {u9:Int} (hlt:decide ((k:Int)<(m.length:Int))=true) (hin:0≤(k:Int)∧(k:Int)<(m.length:Int)) (hk:m[k]?=some x) (h0:decide (x<0)=false) (hx:decide (x≥(b.w.length:Int))=false) (hp:decide ((k:Int)>0)=false) (hixo:0≤x∧x<(o.w.length:Int)) (hix:0≤x∧x<(b.w.length:Int)) (hv:o.w[x.toNat]?=some v) (hu:b.w[x.toNat]?=some u9) (hvu:(v==u9)=false) (hge:decide ((j:Int)≥(l.length:Int))=false) (hin3:0≤(j:Int)∧(j:Int)<(l.length:Int)) (hj:l[j]?=some x) (hj1:iV (IntKind.i64.wrap ((j:Int)+1))=iV (((j+1:Nat):Int))) (hs:iV (IntKind.i64.wrap ((k:Int)+1))=iV (((k+1:Nat):Int))) {e:Exit} {tm2:TmL} {hp2:HpL}
 (r:Rl 3 3 7 0 234 11 (qpt id j k l m pz) ([(3,0,.ls 0 b.p.length),(3,1,.ls 1 b.w.length),(9,0,.ls 6 o.p.length),(9,1,.ls 7 o.w.length),(0,0,zrI b.p),(1,0,zrI b.w),(6,0,zrI o.p),(7,0,zrI o.w),(8,0,zrI l),(10,0,zrI m)]) e tm2 hp2):Rl 3 3 7 0 234 11 (qoY id j k l m pz) ([(3,0,.ls 0 b.p.length),(3,1,.ls 1 b.w.length),(9,0,.ls 6 o.p.length),(9,1,.ls 7 o.w.length),(0,0,zrI b.p),(1,0,zrI b.w),(6,0,zrI o.p),(7,0,zrI o.w),(8,0,zrI l),(10,0,zrI m)]) e tm2 hp2:=
 RunsL.next [] 300 [.t true,.r (iV x),.t false,.r (iV x),.t false,.t false,.r (iV x),.r (iV v),.r (iV x),.r (iV u9),.t false,.t false,.r (iV x),.r (iV x),.t false,Re hj1,Re hs]
  (Ro (Ai hlt (Ai hin (Ai (qaE hk) (Ai h0 (Ai hin (Ai (qaE hk) (Ai hx (Ai hp (Ai hin (Ai (qaE hk) (Ai hixo (Ai (qb7 hv) (Ai hin (Ai (qaE hk) (Ai hix (Ai (qb7 hu) (Ai hvu (Ai hge (Ai hin3 (Ai (qaE hj) (Ai hin (Ai (qaE hk) (Ai (qeC x) (Ai hj1 (Ai hs tI)))))))))))))))))))))))))) r
theorem qnv {b o:Br} {l m:List Int} {j k:Nat} {x y z z2 v e1 pz id:Int} {u9:Int} (hlt:decide ((k:Int)<(m.length:Int))=true) (hin:0≤(k:Int)∧(k:Int)<(m.length:Int)) (hk:m[k]?=some x) (h0:decide (x<0)=false) (hx:decide (x≥(b.w.length:Int))=false) (hp:decide ((k:Int)>0)=true) (hk1:iV (IntKind.i64.wrap ((k:Int)-1))=iV (z)) (hin2:0≤z∧z<(m.length:Int)) (hz:m[z.toNat]?=some y) (hy:iV (IntKind.i64.wrap (y-1))=iV (z2)) (nz:¬ (2:Int)=0) (hq:iV (IntKind.i64.wrap (Int.tdiv z2 2))=iV (e1)) (hne:(x !=e1)=false) (hixo:0≤x∧x<(o.w.length:Int)) (hix:0≤x∧x<(b.w.length:Int)) (hv:o.w[x.toNat]?=some v) (hu:b.w[x.toNat]?=some u9) (hvu:(v==u9)=true) (hs:iV (IntKind.i64.wrap ((k:Int)+1))=iV (((k+1:Nat):Int))) {e:Exit} {tm2:TmL} {hp2:HpL}
 (r:Rl 3 3 7 0 234 11 ([(3,.pv (iV pz)),(4,.pv (iV id)),(5,.pp 3 0),(11,.pp 9 0),(12,.ls 8 l.length),(16,.ls 10 m.length),(20,.pv (iV (j:Int))),(21,.pv (iV ((k+1:Nat):Int)))]) ([(3,0,.ls 0 b.p.length),(3,1,.ls 1 b.w.length),(9,0,.ls 6 o.p.length),(9,1,.ls 7 o.w.length),(0,0,zrI b.p),(1,0,zrI b.w),(6,0,zrI o.p),(7,0,zrI o.w),(8,0,zrI l),(10,0,zrI m)]) e tm2 hp2):Rl 3 3 7 0 234 11 (qoY id j k l m pz) ([(3,0,.ls 0 b.p.length),(3,1,.ls 1 b.w.length),(9,0,.ls 6 o.p.length),(9,1,.ls 7 o.w.length),(0,0,zrI b.p),(1,0,zrI b.w),(6,0,zrI o.p),(7,0,zrI o.w),(8,0,zrI l),(10,0,zrI m)]) e tm2 hp2:=
 RunsL.next [] 300 [.t true,.r (iV x),.t false,.r (iV x),.t false,.t true,.r (iV x),Re hk1,.r (iV y),Re hy,Re hq,.t false,.r (iV x),.r (iV v),.r (iV x),.r (iV u9),.t true,Re hs]
  (Ro (Ai hlt (Ai hin (Ai (qaE hk) (Ai h0 (Ai hin (Ai (qaE hk) (Ai hx (Ai hp (Ai hin (Ai (qaE hk) (Ai hk1 (Ai hin2 (Ai (qb7 hz) (Ai hy (Ai nz (Ai hq (Ai hne (Ai hin (Ai (qaE hk) (Ai hixo (Ai (qb7 hv) (Ai hin (Ai (qaE hk) (Ai hix (Ai (qb7 hu) (Ai hvu (Ai hs tI)))))))))))))))))))))))))))) r
theorem qmt {b o:Br} {l m:List Int} {j k:Nat} {x y z z2 v e1 pz id:Int} {u9:Int} (hlt:decide ((k:Int)<(m.length:Int))=true) (hin:0≤(k:Int)∧(k:Int)<(m.length:Int)) (hk:m[k]?=some x) (h0:decide (x<0)=false) (hx:decide (x≥(b.w.length:Int))=false) (hp:decide ((k:Int)>0)=true) (hk1:iV (IntKind.i64.wrap ((k:Int)-1))=iV (z)) (hin2:0≤z∧z<(m.length:Int)) (hz:m[z.toNat]?=some y) (hy:iV (IntKind.i64.wrap (y-1))=iV (z2)) (nz:¬ (2:Int)=0) (hq:iV (IntKind.i64.wrap (Int.tdiv z2 2))=iV (e1)) (hne:(x !=e1)=false) (hixo:0≤x∧x<(o.w.length:Int)) (hix:0≤x∧x<(b.w.length:Int)) (hv:o.w[x.toNat]?=some v) (hu:b.w[x.toNat]?=some u9) (hvu:(v==u9)=false) (hge:decide ((j:Int)≥(l.length:Int))=false) (hin3:0≤(j:Int)∧(j:Int)<(l.length:Int)) (hj:l[j]?=some x) (hj1:iV (IntKind.i64.wrap ((j:Int)+1))=iV (((j+1:Nat):Int))) (hs:iV (IntKind.i64.wrap ((k:Int)+1))=iV (((k+1:Nat):Int))) {e:Exit} {tm2:TmL} {hp2:HpL}
 (r:Rl 3 3 7 0 234 11 (qpt id j k l m pz) ([(3,0,.ls 0 b.p.length),(3,1,.ls 1 b.w.length),(9,0,.ls 6 o.p.length),(9,1,.ls 7 o.w.length),(0,0,zrI b.p),(1,0,zrI b.w),(6,0,zrI o.p),(7,0,zrI o.w),(8,0,zrI l),(10,0,zrI m)]) e tm2 hp2):Rl 3 3 7 0 234 11 (qoY id j k l m pz) ([(3,0,.ls 0 b.p.length),(3,1,.ls 1 b.w.length),(9,0,.ls 6 o.p.length),(9,1,.ls 7 o.w.length),(0,0,zrI b.p),(1,0,zrI b.w),(6,0,zrI o.p),(7,0,zrI o.w),(8,0,zrI l),(10,0,zrI m)]) e tm2 hp2:=
 RunsL.next [] 300 [.t true,.r (iV x),.t false,.r (iV x),.t false,.t true,.r (iV x),Re hk1,.r (iV y),Re hy,Re hq,.t false,.r (iV x),.r (iV v),.r (iV x),.r (iV u9),.t false,.t false,.r (iV x),.r (iV x),.t false,Re hj1,Re hs]
  (Ro (Ai hlt (Ai hin (Ai (qaE hk) (Ai h0 (Ai hin (Ai (qaE hk) (Ai hx (Ai hp (Ai hin (Ai (qaE hk) (Ai hk1 (Ai hin2 (Ai (qb7 hz) (Ai hy (Ai nz (Ai hq (Ai hne (Ai hin (Ai (qaE hk) (Ai hixo (Ai (qb7 hv) (Ai hin (Ai (qaE hk) (Ai hix (Ai (qb7 hu) (Ai hvu (Ai hge (Ai hin3 (Ai (qaE hj) (Ai hin (Ai (qaE hk) (Ai (qeC x) (Ai hj1 (Ai hs tI))))))))))))))))))))))))))))))))))) r
abbrev qoJ (id:Int) (j:Nat) (l:List Int) (m:List Int) (pz:Int):TmL:=[(3,.pv (iV pz)),(4,.pv (iV id)),(5,.pp 3 0),(11,.pp 9 0),(12,.ls 8 l.length),(16,.ls 10 m.length),(20,.pv (iV (j:Int)))]
theorem qkm {b o:Br} {l m:List Int} {j k:Nat} {pz id:Int} (hlt:decide ((k:Int)<(m.length:Int))=false):Rl 3 3 7 0 234 11 (qoY id j k l m pz) ([(3,0,.ls 0 b.p.length),(3,1,.ls 1 b.w.length),(9,0,.ls 6 o.p.length),(9,1,.ls 7 o.w.length),(0,0,zrI b.p),(1,0,zrI b.w),(6,0,zrI o.p),(7,0,zrI o.w),(8,0,zrI l),(10,0,zrI m)]) (.exit 0) (qoJ id j l m pz) ([(3,0,.ls 0 b.p.length),(3,1,.ls 1 b.w.length),(9,0,.ls 6 o.p.length),(9,1,.ls 7 o.w.length),(0,0,zrI b.p),(1,0,zrI b.w),(6,0,zrI o.p),(7,0,zrI o.w),(8,0,zrI l),(10,0,zrI m)]):=
 RunsL.stop [] 300 [.t false] (fun h=>by cases h)
  (Ro (Ai hlt tI))
abbrev qsF (id:Int) (j:Nat) (k:Nat) (l:List Int) (m:List Int) (n:Nat) (pz:Int):TmL:=[(3,.pv (iV pz)),(4,.pv (iV id)),(5,.pp 3 0),(11,.pp 9 0),(12,.ls 8 l.length),(16,.ls 10 m.length),(20,.pv (iV (j:Int))),(22,.pv (iV (k:Int))),(23,.pv (.bool true)),(24,.pv (iV ((n+1:Nat):Int)))]
abbrev qsO (id:Int) (j:Nat) (k:Nat) (l:List Int) (m:List Int) (n:Nat) (pz:Int):TmL:=[(3,.pv (iV pz)),(4,.pv (iV id)),(5,.pp 3 0),(11,.pp 9 0),(12,.ls 8 l.length),(16,.ls 10 m.length),(20,.pv (iV (j:Int))),(22,.pv (iV (k:Int))),(23,.pv (.bool true)),(24,.pv (iV (n:Int)))]
theorem qpF {b o:Br} {l m:List Int} {j k n:Nat} {pz id:Int} (hlt:decide ((n:Int)<(m.length:Int))=true) (hs:iV (IntKind.i64.wrap ((n:Int)+1))=iV (((n+1:Nat):Int))) {e:Exit} {tm2:TmL} {hp2:HpL}
 (r:Rl 3 3 7 2 234 11 (qsF id j k l m n pz) ([(3,0,.ls 0 b.p.length),(3,1,.ls 1 b.w.length),(9,0,.ls 6 o.p.length),(9,1,.ls 7 o.w.length),(0,0,zrI b.p),(1,0,zrI b.w),(6,0,zrI o.p),(7,0,zrI o.w),(8,0,zrI l),(10,0,zrI m)]) e tm2 hp2):Rl 3 3 7 2 234 11 (qsO id j k l m n pz) ([(3,0,.ls 0 b.p.length),(3,1,.ls 1 b.w.length),(9,0,.ls 6 o.p.length),(9,1,.ls 7 o.w.length),(0,0,zrI b.p),(1,0,zrI b.w),(6,0,zrI o.p),(7,0,zrI o.w),(8,0,zrI l),(10,0,zrI m)]) e tm2 hp2:=
 RunsL.next [] 300 [.t true,Re hs]
  (Ro (Ai hlt (Ai hs tI))) r
abbrev qrw (id:Int) (j:Nat) (k:Nat) (l:List Int) (m:List Int) (n:Nat) (pz:Int):TmL:=[(3,.pv (iV pz)),(4,.pv (iV id)),(5,.pp 3 0),(11,.pp 9 0),(12,.ls 8 l.length),(16,.ls 10 m.length),(20,.pv (iV (j:Int))),(22,.pv (iV (k:Int))),(23,.pv (.bool false)),(24,.pv (iV (n:Int)))]
theorem qmA {b o:Br} {l m:List Int} {j k n:Nat} {x pz id:Int} (hlt:decide ((n:Int)<(m.length:Int))=true) (hin:0≤(n:Int)∧(n:Int)<(m.length:Int)) (hk:m[n]?=some x) (hxk:(x==(k:Int))=true) (hs:iV (IntKind.i64.wrap ((n:Int)+1))=iV (((n+1:Nat):Int))) {e:Exit} {tm2:TmL} {hp2:HpL}
 (r:Rl 3 3 7 2 234 11 (qsF id j k l m n pz) ([(3,0,.ls 0 b.p.length),(3,1,.ls 1 b.w.length),(9,0,.ls 6 o.p.length),(9,1,.ls 7 o.w.length),(0,0,zrI b.p),(1,0,zrI b.w),(6,0,zrI o.p),(7,0,zrI o.w),(8,0,zrI l),(10,0,zrI m)]) e tm2 hp2):Rl 3 3 7 2 234 11 (qrw id j k l m n pz) ([(3,0,.ls 0 b.p.length),(3,1,.ls 1 b.w.length),(9,0,.ls 6 o.p.length),(9,1,.ls 7 o.w.length),(0,0,zrI b.p),(1,0,zrI b.w),(6,0,zrI o.p),(7,0,zrI o.w),(8,0,zrI l),(10,0,zrI m)]) e tm2 hp2:=
 RunsL.next [] 300 [.t true,.r (iV x),.t true,Re hs]
  (Ro (Ai hlt (Ai hin (Ai (qaE hk) (Ai hxk (Ai hs tI)))))) r
theorem qnB {b o:Br} {l m:List Int} {j k n:Nat} {x pz id:Int} (hlt:decide ((n:Int)<(m.length:Int))=true) (hin:0≤(n:Int)∧(n:Int)<(m.length:Int)) (hk:m[n]?=some x) (hxk:(x==(k:Int))=false) (hs:iV (IntKind.i64.wrap ((n:Int)+1))=iV (((n+1:Nat):Int))) {e:Exit} {tm2:TmL} {hp2:HpL}
 (r:Rl 3 3 7 2 234 11 ([(3,.pv (iV pz)),(4,.pv (iV id)),(5,.pp 3 0),(11,.pp 9 0),(12,.ls 8 l.length),(16,.ls 10 m.length),(20,.pv (iV (j:Int))),(22,.pv (iV (k:Int))),(23,.pv (.bool false)),(24,.pv (iV ((n+1:Nat):Int)))]) ([(3,0,.ls 0 b.p.length),(3,1,.ls 1 b.w.length),(9,0,.ls 6 o.p.length),(9,1,.ls 7 o.w.length),(0,0,zrI b.p),(1,0,zrI b.w),(6,0,zrI o.p),(7,0,zrI o.w),(8,0,zrI l),(10,0,zrI m)]) e tm2 hp2):Rl 3 3 7 2 234 11 (qrw id j k l m n pz) ([(3,0,.ls 0 b.p.length),(3,1,.ls 1 b.w.length),(9,0,.ls 6 o.p.length),(9,1,.ls 7 o.w.length),(0,0,zrI b.p),(1,0,zrI b.w),(6,0,zrI o.p),(7,0,zrI o.w),(8,0,zrI l),(10,0,zrI m)]) e tm2 hp2:=
 RunsL.next [] 300 [.t true,.r (iV x),.t false,Re hs]
  (Ro (Ai hlt (Ai hin (Ai (qaE hk) (Ai hxk (Ai hs tI)))))) r
abbrev qoM (id:Int) (j:Nat) (k:Nat) (l:List Int) (m:List Int) (pz:Int):TmL:=[(3,.pv (iV pz)),(4,.pv (iV id)),(5,.pp 3 0),(11,.pp 9 0),(12,.ls 8 l.length),(16,.ls 10 m.length),(20,.pv (iV (j:Int))),(22,.pv (iV (k:Int))),(23,.pv (.bool true))]
theorem qjS {b o:Br} {l m:List Int} {j k n:Nat} {pz id:Int} (hlt:decide ((n:Int)<(m.length:Int))=false):Rl 3 3 7 2 234 11 (qsO id j k l m n pz) ([(3,0,.ls 0 b.p.length),(3,1,.ls 1 b.w.length),(9,0,.ls 6 o.p.length),(9,1,.ls 7 o.w.length),(0,0,zrI b.p),(1,0,zrI b.w),(6,0,zrI o.p),(7,0,zrI o.w),(8,0,zrI l),(10,0,zrI m)]) (.exit 4) (qoM id j k l m pz) ([(3,0,.ls 0 b.p.length),(3,1,.ls 1 b.w.length),(9,0,.ls 6 o.p.length),(9,1,.ls 7 o.w.length),(0,0,zrI b.p),(1,0,zrI b.w),(6,0,zrI o.p),(7,0,zrI o.w),(8,0,zrI l),(10,0,zrI m)]):=
 RunsL.stop [] 300 [.t false] (fun h=>by cases h)
  (Ro (Ai hlt tI))
abbrev qsQ (id:Int) (j:Nat) (k:Nat) (l:List Int) (m:List Int) (pz:Int):TmL:=[(3,.pv (iV pz)),(4,.pv (iV id)),(5,.pp 3 0),(11,.pp 9 0),(12,.ls 8 l.length),(16,.ls 10 m.length),(20,.pv (iV (j:Int))),(22,.pv (iV (k:Int))),(23,.pv (.bool false))]
theorem qhD {b o:Br} {l m:List Int} {j k n:Nat} {pz id:Int} (hlt:decide ((n:Int)<(m.length:Int))=false):Rl 3 3 7 2 234 11 (qrw id j k l m n pz) ([(3,0,.ls 0 b.p.length),(3,1,.ls 1 b.w.length),(9,0,.ls 6 o.p.length),(9,1,.ls 7 o.w.length),(0,0,zrI b.p),(1,0,zrI b.w),(6,0,zrI o.p),(7,0,zrI o.w),(8,0,zrI l),(10,0,zrI m)]) (.exit 4) (qsQ id j k l m pz) ([(3,0,.ls 0 b.p.length),(3,1,.ls 1 b.w.length),(9,0,.ls 6 o.p.length),(9,1,.ls 7 o.w.length),(0,0,zrI b.p),(1,0,zrI b.w),(6,0,zrI o.p),(7,0,zrI o.w),(8,0,zrI l),(10,0,zrI m)]):=
 RunsL.stop [] 300 [.t false] (fun h=>by cases h)
  (Ro (Ai hlt tI))
abbrev qsi (id:Int) (j:Nat) (k:Nat) (l:List Int) (m:List Int) (pz:Int):TmL:=[(3,.pv (iV pz)),(4,.pv (iV id)),(5,.pp 3 0),(11,.pp 9 0),(12,.ls 8 l.length),(16,.ls 10 m.length),(20,.pv (iV (j:Int))),(22,.pv (iV (k:Int)))]
abbrev qsR (id:Int) (j:Nat) (k:Nat) (l:List Int) (m:List Int) (pz:Int):TmL:=[(3,.pv (iV pz)),(4,.pv (iV id)),(5,.pp 3 0),(11,.pp 9 0),(12,.ls 8 l.length),(16,.ls 10 m.length),(20,.pv (iV (j:Int))),(22,.pv (iV (k:Int))),(23,.pv (.bool false)),(24,.pv (iV ((0:Nat):Int)))]
theorem qnq {b o:Br} {l m:List Int} {j k:Nat} {pz id:Int} (hlt:decide ((k:Int)<(b.w.length:Int))=true) (r2:Rl 3 3 7 2 234 11 (qsR id j k l m pz) ([(3,0,.ls 0 b.p.length),(3,1,.ls 1 b.w.length),(9,0,.ls 6 o.p.length),(9,1,.ls 7 o.w.length),(0,0,zrI b.p),(1,0,zrI b.w),(6,0,zrI o.p),(7,0,zrI o.w),(8,0,zrI l),(10,0,zrI m)]) (.exit 4) (qoM id j k l m pz) ([(3,0,.ls 0 b.p.length),(3,1,.ls 1 b.w.length),(9,0,.ls 6 o.p.length),(9,1,.ls 7 o.w.length),(0,0,zrI b.p),(1,0,zrI b.w),(6,0,zrI o.p),(7,0,zrI o.w),(8,0,zrI l),(10,0,zrI m)])) (hs:iV (IntKind.i64.wrap ((k:Int)+1))=iV (((k+1:Nat):Int))) {e:Exit} {tm2:TmL} {hp2:HpL}
 (r:Rl 3 3 7 1 234 11 ([(3,.pv (iV pz)),(4,.pv (iV id)),(5,.pp 3 0),(11,.pp 9 0),(12,.ls 8 l.length),(16,.ls 10 m.length),(20,.pv (iV (j:Int))),(22,.pv (iV ((k+1:Nat):Int)))]) ([(3,0,.ls 0 b.p.length),(3,1,.ls 1 b.w.length),(9,0,.ls 6 o.p.length),(9,1,.ls 7 o.w.length),(0,0,zrI b.p),(1,0,zrI b.w),(6,0,zrI o.p),(7,0,zrI o.w),(8,0,zrI l),(10,0,zrI m)]) e tm2 hp2):Rl 3 3 7 1 234 11 (qsi id j k l m pz) ([(3,0,.ls 0 b.p.length),(3,1,.ls 1 b.w.length),(9,0,.ls 6 o.p.length),(9,1,.ls 7 o.w.length),(0,0,zrI b.p),(1,0,zrI b.w),(6,0,zrI o.p),(7,0,zrI o.w),(8,0,zrI l),(10,0,zrI m)]) e tm2 hp2:=
 RunsL.next [] 300 [.t true,Lf r2,.k,Re hs]
  (Ro (Ai hlt (Lo r2 [] (Ai hs tI)))) r
theorem qku {b o:Br} {l m:List Int} {j k:Nat} {v pz id:Int} (hlt:decide ((k:Int)<(b.w.length:Int))=true) (r2:Rl 3 3 7 2 234 11 (qsR id j k l m pz) ([(3,0,.ls 0 b.p.length),(3,1,.ls 1 b.w.length),(9,0,.ls 6 o.p.length),(9,1,.ls 7 o.w.length),(0,0,zrI b.p),(1,0,zrI b.w),(6,0,zrI o.p),(7,0,zrI o.w),(8,0,zrI l),(10,0,zrI m)]) (.exit 4) (qsQ id j k l m pz) ([(3,0,.ls 0 b.p.length),(3,1,.ls 1 b.w.length),(9,0,.ls 6 o.p.length),(9,1,.ls 7 o.w.length),(0,0,zrI b.p),(1,0,zrI b.w),(6,0,zrI o.p),(7,0,zrI o.w),(8,0,zrI l),(10,0,zrI m)])) (hino:0≤(k:Int)∧(k:Int)<(o.w.length:Int)) (hin:0≤(k:Int)∧(k:Int)<(b.w.length:Int)) (hv:o.w[k]?=some v) (hu:b.w[k]?=some v) (hs:iV (IntKind.i64.wrap ((k:Int)+1))=iV (((k+1:Nat):Int))) {e:Exit} {tm2:TmL} {hp2:HpL}
 (r:Rl 3 3 7 1 234 11 ([(3,.pv (iV pz)),(4,.pv (iV id)),(5,.pp 3 0),(11,.pp 9 0),(12,.ls 8 l.length),(16,.ls 10 m.length),(20,.pv (iV (j:Int))),(22,.pv (iV ((k+1:Nat):Int)))]) ([(3,0,.ls 0 b.p.length),(3,1,.ls 1 b.w.length),(9,0,.ls 6 o.p.length),(9,1,.ls 7 o.w.length),(0,0,zrI b.p),(1,0,zrI b.w),(6,0,zrI o.p),(7,0,zrI o.w),(8,0,zrI l),(10,0,zrI m)]) e tm2 hp2):Rl 3 3 7 1 234 11 (qsi id j k l m pz) ([(3,0,.ls 0 b.p.length),(3,1,.ls 1 b.w.length),(9,0,.ls 6 o.p.length),(9,1,.ls 7 o.w.length),(0,0,zrI b.p),(1,0,zrI b.w),(6,0,zrI o.p),(7,0,zrI o.w),(8,0,zrI l),(10,0,zrI m)]) e tm2 hp2:=
 RunsL.next [] 300 [.t true,Lf r2,.k,.r (iV v),.r (iV v),.t false,Re hs]
  (Ro (Ai hlt (Lo r2 [] (Ai hino (Ai (qaE hv) (Ai hin (Ai (qaE hu) (Ai (qeC v) (Ai hs tI))))))))) r
theorem qkG {b o:Br} {l m:List Int} {j k:Nat} {pz id:Int} (hlt:decide ((k:Int)<(b.w.length:Int))=false):Rl 3 3 7 1 234 11 (qsi id j k l m pz) ([(3,0,.ls 0 b.p.length),(3,1,.ls 1 b.w.length),(9,0,.ls 6 o.p.length),(9,1,.ls 7 o.w.length),(0,0,zrI b.p),(1,0,zrI b.w),(6,0,zrI o.p),(7,0,zrI o.w),(8,0,zrI l),(10,0,zrI m)]) (.exit 2) (qoJ id j l m pz) ([(3,0,.ls 0 b.p.length),(3,1,.ls 1 b.w.length),(9,0,.ls 6 o.p.length),(9,1,.ls 7 o.w.length),(0,0,zrI b.p),(1,0,zrI b.w),(6,0,zrI o.p),(7,0,zrI o.w),(8,0,zrI l),(10,0,zrI m)]):=
 RunsL.stop [] 300 [.t false] (fun h=>by cases h)
  (Ro (Ai hlt tI))
abbrev qsC (id:Int) (l:List Int) (m:List Int) (pz:Int):TmL:=[(3,.pv (iV pz)),(4,.pv (iV id)),(5,.pp 3 0),(11,.pp 9 0),(12,.ls 8 l.length),(16,.ls 10 m.length),(20,.pv (iV ((0:Nat):Int))),(21,.pv (iV ((0:Nat):Int)))]
abbrev qqH (id:Int) (j:Nat) (l:List Int) (m:List Int) (pz:Int):TmL:=[(3,.pv (iV pz)),(4,.pv (iV id)),(5,.pp 3 0),(11,.pp 9 0),(12,.ls 8 l.length),(16,.ls 10 m.length),(20,.pv (iV (j:Int))),(22,.pv (iV ((0:Nat):Int)))]
theorem qmx {b o:Br} {l m:List Int} {s:List Pt} {j:Nat} {tn td pz id:Int} (hft:Fn 33 3 [brS 0 1 b,qaz 2 s,.pv (qac tn td)] [(0,0,zrI b.p),(1,0,zrI b.w),(2,0,qal s)] (.pv (.bool true)) 0 []) (h1:Fn 14 3 [brS 0 1 b,qaz 2 s,.pv (qac tn td),.pv (iV (pz)),.pv (iV (id))] [(0,0,zrI b.p),(1,0,zrI b.w),(2,0,qal s)] (.tu [qls 3 4 o,.one (.ls 5 l.length),.one (.pv (iV 0))]) 3 [(3,0,zrI o.p),(4,0,zrI o.w),(5,0,zrI l)]) (h2:Fn 15 3 [brS 0 1 b,qaz 2 s,.pv (qac tn td)] [(0,0,zrI b.p),(1,0,zrI b.w),(2,0,qal s)] (.pv (.tuple #[.bool true,iV 0])) 0 []) (hp:Fn 13 2 [brS 0 1 b,.pv (iV (pz))] [(0,0,zrI b.p),(1,0,zrI b.w)] (.tu [.one (.ls 2 m.length),.one (.pv (iV 0))]) 1 [(2,0,zrI m)]) (h3:Fn 15 3 [brS 0 1 o,qaz 2 s,.pv (qac tn td)] [(0,0,zrI o.p),(1,0,zrI o.w),(2,0,qal s)] (.pv (.tuple #[.bool true,iV 0])) 0 []) (hl1:((o.w.length:Int) !=(b.w.length:Int))=false) (hl2:((o.p.length:Int) !=(b.p.length:Int))=false) (h6:decide ((m.length:Int)>6)=false) (r0:Rl 3 3 7 0 234 11 (qsC id l m pz) ([(3,0,.ls 0 b.p.length),(3,1,.ls 1 b.w.length),(9,0,.ls 6 o.p.length),(9,1,.ls 7 o.w.length),(0,0,zrI b.p),(1,0,zrI b.w),(6,0,zrI o.p),(7,0,zrI o.w),(8,0,zrI l),(10,0,zrI m)]) (.exit 0) (qoJ id j l m pz) ([(3,0,.ls 0 b.p.length),(3,1,.ls 1 b.w.length),(9,0,.ls 6 o.p.length),(9,1,.ls 7 o.w.length),(0,0,zrI b.p),(1,0,zrI b.w),(6,0,zrI o.p),(7,0,zrI o.w),(8,0,zrI l),(10,0,zrI m)])) (r1:Rl 3 3 7 1 234 11 (qqH id j l m pz) ([(3,0,.ls 0 b.p.length),(3,1,.ls 1 b.w.length),(9,0,.ls 6 o.p.length),(9,1,.ls 7 o.w.length),(0,0,zrI b.p),(1,0,zrI b.w),(6,0,zrI o.p),(7,0,zrI o.w),(8,0,zrI l),(10,0,zrI m)]) (.exit 2) (qoJ id j l m pz) ([(3,0,.ls 0 b.p.length),(3,1,.ls 1 b.w.length),(9,0,.ls 6 o.p.length),(9,1,.ls 7 o.w.length),(0,0,zrI b.p),(1,0,zrI b.w),(6,0,zrI o.p),(7,0,zrI o.w),(8,0,zrI l),(10,0,zrI m)])) (hat:((j:Int)==(l.length:Int))=true) (hix:0≤pz∧pz<(o.p.length:Int)) (hi:o.p[pz.toNat]?=some id) (hal:Pure Try.prog 18 #[] (.bool true)) :
 Fn 7 3 [brS 0 1 b,qaz 2 s,.pv (qac tn td),.pv (iV (pz)),.pv (iV (id))] [(0,0,zrI b.p),(1,0,zrI b.w),(2,0,qal s)] (.pv (.bool true)) 0 []:=
 qbV 600 [] [Cf hft [0,1,2],.k,Cf h1 [0,1,2],Cf h2 [0,1,2],.k,.k,Cf hp [0,1],Cf h3 [6,7,2],.k,.k,.k,.t false,.t false,.t false,Lf r0,Lf r1,.t true,.r (iV id),.t true,Rf hal]
  tI (Co hft [0,1,2] 6 (Co h1 [0,1,2] 6 (Co h2 [0,1,2] 10 (Co hp [0,1] 10 (Co h3 [6,7,2] 11 (Ai hl1 (Ai hl2 (Ai h6 (Lo r0 [] (Lo r1 [] (Ai hat (Ai hix (Ai (qb7 hi) (Ai (qjT id) (Ai hal tI))))))))))))))) (by kernel_rfl)
theorem qnC {b o:Br} {l m:List Int} {s:List Pt} {j:Nat} {tn td pz id:Int} {w:Bool} (hft:Fn 33 3 [brS 0 1 b,qaz 2 s,.pv (qac tn td)] [(0,0,zrI b.p),(1,0,zrI b.w),(2,0,qal s)] (.pv (.bool true)) 0 []) (h1:Fn 14 3 [brS 0 1 b,qaz 2 s,.pv (qac tn td),.pv (iV (pz)),.pv (iV (id))] [(0,0,zrI b.p),(1,0,zrI b.w),(2,0,qal s)] (.tu [qls 3 4 o,.one (.ls 5 l.length),.one (.pv (iV 0))]) 3 [(3,0,zrI o.p),(4,0,zrI o.w),(5,0,zrI l)]) (h2:Fn 15 3 [brS 0 1 b,qaz 2 s,.pv (qac tn td)] [(0,0,zrI b.p),(1,0,zrI b.w),(2,0,qal s)] (.pv (.tuple #[.bool false,iV 0])) 0 []) (hp:Fn 13 2 [brS 0 1 b,.pv (iV (pz))] [(0,0,zrI b.p),(1,0,zrI b.w)] (.tu [.one (.ls 2 m.length),.one (.pv (iV 0))]) 1 [(2,0,zrI m)]) (h3:Fn 15 3 [brS 0 1 o,qaz 2 s,.pv (qac tn td)] [(0,0,zrI o.p),(1,0,zrI o.w),(2,0,qal s)] (.pv (.tuple #[.bool w,iV 0])) 0 []) (hl1:((o.w.length:Int) !=(b.w.length:Int))=false) (hl2:((o.p.length:Int) !=(b.p.length:Int))=false) (h6:decide ((m.length:Int)>6)=false) (r0:Rl 3 3 7 0 234 11 (qsC id l m pz) ([(3,0,.ls 0 b.p.length),(3,1,.ls 1 b.w.length),(9,0,.ls 6 o.p.length),(9,1,.ls 7 o.w.length),(0,0,zrI b.p),(1,0,zrI b.w),(6,0,zrI o.p),(7,0,zrI o.w),(8,0,zrI l),(10,0,zrI m)]) (.exit 0) (qoJ id j l m pz) ([(3,0,.ls 0 b.p.length),(3,1,.ls 1 b.w.length),(9,0,.ls 6 o.p.length),(9,1,.ls 7 o.w.length),(0,0,zrI b.p),(1,0,zrI b.w),(6,0,zrI o.p),(7,0,zrI o.w),(8,0,zrI l),(10,0,zrI m)])) (r1:Rl 3 3 7 1 234 11 (qqH id j l m pz) ([(3,0,.ls 0 b.p.length),(3,1,.ls 1 b.w.length),(9,0,.ls 6 o.p.length),(9,1,.ls 7 o.w.length),(0,0,zrI b.p),(1,0,zrI b.w),(6,0,zrI o.p),(7,0,zrI o.w),(8,0,zrI l),(10,0,zrI m)]) (.exit 2) (qoJ id j l m pz) ([(3,0,.ls 0 b.p.length),(3,1,.ls 1 b.w.length),(9,0,.ls 6 o.p.length),(9,1,.ls 7 o.w.length),(0,0,zrI b.p),(1,0,zrI b.w),(6,0,zrI o.p),(7,0,zrI o.w),(8,0,zrI l),(10,0,zrI m)])) (hat:((j:Int)==(l.length:Int))=true) (hix:0≤pz∧pz<(o.p.length:Int)) (hi:o.p[pz.toNat]?=some id) (hal:Pure Try.prog 18 #[] (.bool true)) :
 Fn 7 3 [brS 0 1 b,qaz 2 s,.pv (qac tn td),.pv (iV (pz)),.pv (iV (id))] [(0,0,zrI b.p),(1,0,zrI b.w),(2,0,qal s)] (.pv (.bool true)) 0 []:=
 qbV 600 [] [Cf hft [0,1,2],.k,Cf h1 [0,1,2],Cf h2 [0,1,2],.k,.k,Cf hp [0,1],Cf h3 [6,7,2],.k,.k,.t false,.t false,.t false,Lf r0,Lf r1,.t true,.r (iV id),.t true,Rf hal]
  tI (Co hft [0,1,2] 6 (Co h1 [0,1,2] 6 (Co h2 [0,1,2] 10 (Co hp [0,1] 10 (Co h3 [6,7,2] 11 (Ai hl1 (Ai hl2 (Ai h6 (Lo r0 [] (Lo r1 [] (Ai hat (Ai hix (Ai (qb7 hi) (Ai (qjT id) (Ai hal tI))))))))))))))) (by kernel_rfl)
end Go.Proofs.Ytgbmdijodlfcaaa

namespace Go.Proofs.Ytgbmdijodlfcaaa
set_option maxRecDepth 100000
open Go.RowKit
theorem qo3 {f:FuncId} {v:Value} (h:Fn f 0 [] [] (.pv v) 0 []):Pure Try.prog f #[] v:=by
 intro w
 refine (h w Bl.no [] (qd9 w) (fun _ _=>⟨rfl,rfl⟩) tI).mono fun e w' ⟨u,β',he,_,hx,hh,_⟩=>?_
 cases hx
 exact⟨he,hh.gr⟩
theorem qmh {n:Int} (h1 : -1000≤n) (h2:n≤1000):I64 n:=⟨by omega,by omega⟩
theorem qfj:Val qbB:=⟨by show 3≤64;omega,fun p hp=>by
 simp only[List.mem_cons,List.not_mem_nil,or_false] at hp
 rcases hp with rfl | rfl | rfl<;>decide,fun k p q hp hq=>by
 match k,hp,hq with
 | 0,hp,hq=>cases hp;cases hq;decide
 | 1,hp,hq=>cases hp;cases hq;decide
 | 2,_,hq=>simp at hq
 | k+3,hp,_=>simp at hp⟩
theorem qrq {p:List Int} (h:∀ x∈p,x = -1∨x=1∨x=2∨x=5):KnB qbB p:=fun x hx h1=>by
 rcases h x hx with rfl | rfl | rfl | rfl
 ·exact (h1 rfl).elim
 ·exact⟨⟨1,0,2⟩,by simp,rfl⟩
 ·exact⟨⟨2,6,-1⟩,by simp,rfl⟩
 ·exact⟨⟨5,0,0⟩,by simp,rfl⟩
theorem qoa {p:List Int} (h:∀ i,i<p.length→∀ k,k<p.length→p.getD i 0=p.getD k 0→0≤p.getD i 0→i=k):OneB p:=fun i k x hi hk h0=>by
 have e1:p.getD i 0=x:=by rw[List.getD_eq_getElem?_getD,hi];rfl
 have e2:p.getD k 0=x:=by rw[List.getD_eq_getElem?_getD,hk];rfl
 exact h i (qaq hi) k (qaq hk) (e1.trans e2.symm) (by rw[e1];exact h0)
section
variable {s:List Pt} {tn td:Int}
theorem qpW {p:List Int} (hk:KnB s p) (h1:OneB p):idE s p=0:=by unfold idE;rw[if_pos hk,if_pos h1]
theorem qpk {p:List Int} (ht:tE s tn td=0) (n:1≤p.length∧p.length≤64) (hk:KnB s p) (h1:OneB p):buE s tn td p=0∧buR s tn td p=bld s tn td p:=by
 have e:buE s tn td p=0:=by unfold buE;rw[if_pos ht,if_pos n,if_pos hk,if_pos h1]
 exact⟨e,by unfold buR;rw[if_pos e]⟩
theorem qoQ {b:Br} {z x:Int} (V:VB b) (ht:tE s tn td=0) (hz:0≤z∧z<b.p.length) (hk:KnB s (b.p.set z.toNat x)) (h1:OneB (b.p.set z.toNat x)):seE b s tn td z x=0∧seR s tn td b z x=rpF s tn td (wy (b.w.length+z.toNat)) (⟨b.p.set z.toNat x,b.w⟩,[]):=by
 have e:seE b s tn td z x=0:=(qlQ V ht hz).trans (qpW hk h1)
 exact⟨e,by unfold seR;rw[if_pos e]⟩
end
theorem qry (n:Int) (h:okB n 1=true):tE qbB n 1=0:=qrc qfj h
abbrev br4:Br:=⟨[1,2,-1,5],[2,2,5]⟩
theorem qlE:bld qbB 0 1 [1,2,-1,5]=br4:=by
 have:=qlv
 show (⟨[1,2,-1,5],_⟩:Br)=_
 rw[show br4=⟨[1,2,-1,5],(bld qbB 0 1 [1,2,-1,5]).w⟩ by rw[this]]
 rfl
theorem qgP:VB br4:=by
 rw[← qlE]
 exact qpP qfj (by decide) (by decide) (qrq (by decide)) (qoa (by decide))
theorem qog:Fn 10 0 [] [] (.ag [.ls 0 3]) 1 [(0,0,qal qbB)]:=qsq
set_option maxRecDepth 10000 in
theorem qeK:Pure Try.prog 18 #[] (.bool true):=by
 have z0:I64 0:=qmh (by omega) (by omega)
 have z1:I64 1:=qmh (by omega) (by omega)
 have ht:=qry 0 (by decide)
 have hb:=qqA (s:=qbB) z0 z1 [1,2,-1,5] (by decide)
 obtain⟨e1,e2⟩:=qpk (p:=[1,2,-1,5]) ht (by decide) (qrq (by decide)) (qoa (by decide))
 unfold qcU at hb
 rw[e1,e2,qlE] at hb
 have hw:=qm8 (b:=br4) (by decide) (by decide)
 unfold qjI at hw
 rw[(qkg qgP (by decide)).1,(qkg qgP (by decide)).2] at hw
 have hs:=qsE (s:=qbB) (b:=br4) (z:=1) (x:=-1) z0 z1 (by decide) (by decide)
 obtain⟨e3,e4⟩:=qoQ (s:=qbB) (tn:=0) (td:=1) (b:=br4) (z:=1) (x:=-1) qgP ht (by decide) (qrq (by decide)) (qoa (by decide))
 have e5:seR qbB 0 1 br4 1 (-1)=(⟨[1,-1,-1,5],[1,1,5]⟩,[1,0]):=by
  rw[e4]
  generalize hq:rpF qbB 0 1 (wy (br4.w.length+(1:Int).toNat)) (⟨br4.p.set (1:Int).toNat (-1),br4.w⟩,[])=q
  have h1:q.1.w=[1,1,5]:=by rw[← hq];decide
  have h2:q.2=[1,0]:=by rw[← hq];decide
  have h3:q.1.p=[1,-1,-1,5]:=by rw[← hq];decide
  obtain⟨⟨p,w⟩,m⟩:=q
  simp only at h1 h2 h3
  rw[h1,h2,h3]
 unfold qfr at hs
 rw[e3,e5] at hs
 have hp:=qp2 (b:=br4) (by decide) (by decide) 3
 obtain⟨e6,e7⟩:=qir (b:=br4) (z:=3) qgP (by decide)
 unfold qem at hp
 rw[e6,e7,show wyV (br4.w.length+(3:Int).toNat)=[2,0] by decide] at hp
 exact qo3 (qrk (hg:=qog) (hat0:=qsj) (hb:=hb) (hw:=hw) (hs:=hs) (hp:=hp) (h1:=qkK (by decide)) (h2:=qkK (by decide)) (h3:=qkK (by decide)) (h4:=qkK (by decide)))
section
variable {s:List Pt} {tn td:Int} (htn:I64 tn) (htd:I64 td)
abbrev qpM (s:List Pt) (tn td:Int) (b:Br) (w:Bool):Prop:=Fn 33 3 [brS 0 1 b,qaz 2 s,.pv (qac tn td)] [(0,0,zrI b.p),(1,0,zrI b.w),(2,0,qal s)] (.pv (.bool w)) 0 []
include htn htd in
theorem qpj (b:Br):qpM s tn td b false∨(qpM s tn td b true∧VB b∧tE s tn td=0∧KnB s b.p):=by
 have h2:=qon b
 by_cases hb:qnm b=true
 ·rw[hb] at h2
  exact Or.inl (qmT (hg2:=h2))
 rw[show qnm b=false by simpa using hb] at h2
 obtain⟨a1,a2⟩:=qmI (b:=b) (by simpa using hb)
 rcases qic s with ⟨_,hg⟩ | ⟨_,hg⟩
 ·exact Or.inl (qjp (hg2:=h2) (hg:=hg))
 have c1:=qr1 a1 a2
 unfold qfX at c1
 by_cases V:VB b
 ·rw[qdt V] at c1
  have c2:=qjb htn htd s
  by_cases ht:tE s tn td=0
  ·obtain⟨hs,_⟩:=qcp ht
   rw[ht] at c2
   have c3:=qho hs (l:=b.p) rfl (by omega)
   by_cases hk:KnB s b.p
   ·rw[qeX hk] at c3
    exact Or.inr ⟨qn1 (hg2:=h2) (hg:=hg) (hc:=c1) (ht:=c2) (hkn:=c3),V,ht,hk⟩
   ·rw[qe0 hk] at c3
    exact Or.inl (qpK (hg2:=h2) (hg:=hg) (hc:=c1) (ht:=c2) (hkn:=c3))
  ·exact Or.inl (qkA (hg2:=h2) (hg:=hg) (hc:=c1) (ht:=c2) (he:=by simpa using ht))
 ·rw[qaP V] at c1
  exact Or.inl (qnA (hg2:=h2) (hg:=hg) (hc:=c1))
end
end Go.Proofs.Ytgbmdijodlfcaaa
