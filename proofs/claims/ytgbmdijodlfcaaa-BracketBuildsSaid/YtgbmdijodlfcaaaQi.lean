/-
  The reference of layer 10: it returns the same of any arguments. Conditions: none.
-/
import Derived.Test.YtgbmdijodlfcaaaW36
import Derived.Test.YtgbmdijodlfcaaaW21
namespace Go.Proofs.Ytgbmdijodlfcaaa
set_option maxRecDepth 100000
open Go.RowKit
theorem qlU {l:List Int} (hn:l.length≤1000000):Fn 27 2 [.ls 0 l.length,.ls 1 l.length] [(0,0,zrI l),(1,0,zrI l)] (.pv (.bool true)) 0 []:=
 qnI (hl:=by simp) (r0:=RunsL.roundsZ (N:=l.length) (fun k=>[(0,.ls 0 l.length),(1,.ls 1 l.length),(5,.pv (iV (k:Int)))]) (fun _=>[(0,0,zrI l),(1,0,zrI l)]) l.length 0 (by omega) (fun k _ hk r=>by
  obtain⟨x,hx⟩:=qal hk
  exact qlW (hk:=hx) (hin:=qao hk) (hlt:=dt (by omega)) (hne:=by simp) (hs:=qap (by omega)) r) (qnA (hge:=df (by omega))))
theorem qja {b:Br} (h1:b.p.length≤1000000) (h2:b.w.length≤1000000):Fn 17 4 [brS 0 1 b,brS 2 3 b] [(0,0,zrI b.p),(1,0,zrI b.w),(2,0,zrI b.p),(3,0,zrI b.w)] (.pv (.bool true)) 0 []:=
 qsm (h1:=qlU h1) (h2:=qlU h2)
def qoh (b:Br):Bool:=decide (70<b.p.length∨70<b.w.length)
theorem qnx (b:Br):Fn 20 2 [brS 0 1 b] [(0,0,zrI b.p),(1,0,zrI b.w)] (.pv (.bool (qoh b))) 0 []:=by
 by_cases h1:70<b.p.length
 ·rw[show qoh b=true from dt (Or.inl h1)];exact qrx (h1:=dt (by omega))
 ·by_cases h2:70<b.w.length
  ·rw[show qoh b=true from dt (Or.inr h2)];exact qr6 (h1:=df (by omega)) (h2:=dt (by omega))
  ·rw[show qoh b=false from df (by omega)];exact qo2 (h1:=df (by omega)) (h2:=df (by omega))
theorem qnD {b:Br} (h:qoh b=false):b.p.length≤70∧b.w.length≤70:=by
 have:=of_decide_eq_false h
 omega
theorem qqs {b:Br} (h1:b.p.length≤70) (h2:b.w.length≤70):Fn 21 2 [brS 0 1 b] [(0,0,zrI b.p),(1,0,zrI b.w)] (brS 2 3 b) 2 [(2,0,zrI b.p),(3,0,zrI b.w)]:=qtw (n1:=by omega) (n2:=by omega)
theorem qbG {b:Br} {n j:Nat} (hn:b.w.length=n) (hj:b.p.length=j) (hw:n+1=j) (hl:j≤100000) {i:Nat} (hi:i≤2*n) {z:Int} (hz:z=(i:Int)) :
 Fn 52 2 [.ag [.ls 0 j,.ls 1 n],.pv (iV z)] [(0,0,.row 3 1 j (ziV b.p)),(1,0,.row 3 1 n (ziV b.w))] (.pv (iV (b.nd i))) 0 []:=by
 by_cases h:i<n
 ·exact qqc (h1:=dt (by omega)) (hin:=⟨by omega,by omega⟩) (hk:=by rw[hz,show (i:Int).toNat=i from rfl];exact qbQ (by omega))
 ·exact qmR (y:=((i-n:Nat):Int)) (h1:=df (by omega)) (hs:=by rw[qaP (by omega) (by omega)];congr 1;omega) (hin:=⟨by omega,by omega⟩) (hk:=by
   have:=qgP (b:=b) (i:=i) (by omega) (by omega)
   rw[hn] at this;exact this)
theorem qd6 {l:List Int} (hn:l.length≤1000000):Fn 31 1 [.ls 0 l.length] [(0,0,zrI l)] (.pv (.bool (pB (¬ OneB l)))) 0 []:=by
 have inner:∀ (i:Nat) (x:Int),l[i]?=some x→∀ k,k≤i→(∀ j,j<k→∀ y,l[j]?=some y→¬ (0≤x∧y=x))→∀ {e:Exit} {tm2:TmL} {hp2:HpL},
  Rl 1 1 31 1 32 1 [(0,.ls 0 l.length),(3,.pv (iV (i:Int))),(4,.pv (iV (k:Int)))] [(0,0,zrI l)] e tm2 hp2→
  Rl 1 1 31 1 32 1 [(0,.ls 0 l.length),(3,.pv (iV (i:Int))),(4,.pv (iV ((0:Nat):Int)))] [(0,0,zrI l)] e tm2 hp2:=by
  intro i x hx k hk hno e tm2 hp2 r
  refine RunsL.rounds (fun j=>[(0,.ls 0 l.length),(3,.pv (iV (i:Int))),(4,.pv (iV (j:Int)))]) (fun _=>[(0,0,zrI l)]) (N:=k) k 0 (Nat.zero_add _) (fun j _ hj r=>?_) r
  have hil:=qat hx
  obtain⟨y,hy⟩:=qal (l:=l) (k:=j) (by omega)
  have hn':=hno j hj y hy
  by_cases h0:0≤x
  ·exact qn4 (hki:=dt (by omega)) (hi:=hx) (hii:=qao hil) (hk:=hy) (hin:=qao (by omega)) (h0:=dt h0) (he:=by simp;exact fun e=>hn' ⟨h0,e⟩) (hs:=qap (by omega)) r
  ·exact qm9 (hki:=dt (by omega)) (hi:=hx) (hii:=qao hil) (hk:=hy) (hin:=qao (by omega)) (h0:=df h0) (hs:=qap (by omega)) r
 have row:∀ (i:Nat) (x:Int),l[i]?=some x→((∀ j,j<i→∀ y,l[j]?=some y→¬ (0≤x∧y=x))∧Rl 1 1 31 1 32 1 [(0,.ls 0 l.length),(3,.pv (iV (i:Int))),(4,.pv (iV ((0:Nat):Int)))] [(0,0,zrI l)] (.exit 2) [(0,.ls 0 l.length),(3,.pv (iV (i:Int)))] [(0,0,zrI l)])∨
  ((∃ j,j<i∧l[j]?=some x∧0≤x)∧Rl 1 1 31 1 32 1 [(0,.ls 0 l.length),(3,.pv (iV (i:Int))),(4,.pv (iV ((0:Nat):Int)))] [(0,0,zrI l)] .ret [(2,.pv (.bool true))] []):=by
  intro i x hx
  rcases qaC (fun j=>∀ y,l[j]?=some y→¬ (0≤x∧y=x)) i with h | ⟨j,hj,hb,hf⟩
  ·exact Or.inl ⟨h,inner i x hx i (Nat.le_refl _) h (qkA (hki:=df (by omega)))⟩
  ·simp only[Classical.not_forall,Classical.not_not] at hb
   obtain⟨y,hy,h0,rfl⟩:=hb
   have hil:=qat hx
   exact Or.inr ⟨⟨j,hj,hy,h0⟩,inner i y hx j (by omega) hf (qnc (hki:=dt (by omega)) (hi:=hx) (hii:=qao hil) (hk:=hy) (hin:=qao (by omega)) (h0:=dt h0) (he:=by simp))⟩
 have outer:∀ k,(∀ i,i<k→∀ x,l[i]?=some x→¬ ∃ j,j<i∧l[j]?=some x∧0≤x)→k≤l.length→∀ {e:Exit} {tm2:TmL} {hp2:HpL},
  Rl 1 1 31 0 32 1 [(0,.ls 0 l.length),(3,.pv (iV (k:Int)))] [(0,0,zrI l)] e tm2 hp2→
  Rl 1 1 31 0 32 1 [(0,.ls 0 l.length),(3,.pv (iV ((0:Nat):Int)))] [(0,0,zrI l)] e tm2 hp2:=by
  intro k hk hkl e tm2 hp2 r
  refine RunsL.rounds (fun j=>[(0,.ls 0 l.length),(3,.pv (iV (j:Int)))]) (fun _=>[(0,0,zrI l)]) (N:=k) k 0 (Nat.zero_add _) (fun i _ hi r=>?_) r
  obtain⟨x,hx⟩:=qal (l:=l) (k:=i) (by omega)
  rcases row i x hx with ⟨_,r1⟩ | ⟨h,_⟩
  ·exact qlA (hlt:=dt (by omega)) (r1:=r1) (hs:=qap (by omega)) r
  ·exact (hk i hi x hx h).elim
 rcases qaC (fun i=>∀ x,l[i]?=some x→¬ ∃ j,j<i∧l[j]?=some x∧0≤x) l.length with h | ⟨i,hi,hb,hf⟩
 ·have ho:OneB l:=fun i j x e1 e2 h0=>by
   rcases Nat.lt_trichotomy i j with a | a | a
   ·exact (h j (qat e2) x e2 ⟨i,a,e1,h0⟩).elim
   ·exact a
   ·exact (h i (qat e1) x e1 ⟨j,a,e2,h0⟩).elim
  rw[qea fun k=>k ho]
  exact qp6 (r0:=outer l.length h (Nat.le_refl _) (qnE (hge:=df (by omega))))
 ·simp only[Classical.not_forall,Classical.not_not] at hb
  obtain⟨x,hx,j,hj,hjx,h0⟩:=hb
  rw[qeG fun k=>by
   have:=k i j x hx hjx h0
   omega]
  refine qn7 (r0:=outer i hf (by omega) ?_)
  rcases row i x hx with ⟨h,_⟩ | ⟨_,r1⟩
  ·exact (h j hj x hjx ⟨h0,rfl⟩).elim
  ·exact qn9 (hlt:=dt (by omega)) (r1:=r1)
theorem qln {b:Br} (h1:b.p.length≤70) (h2:b.w.length≤70):qdz 26 b:=by
 unfold qdz
 by_cases a1:b.p.length<1
 ·rw[qaM fun V=>by have:=V.n1;omega]
  exact qpe (h1:=dt (by omega))
 ·by_cases a2:b.p.length>64
  ·rw[qaM fun V=>by have:=V.n2;omega]
   exact qpq (h1:=df (by omega)) (hh:=dt (by omega))
  ·have hs:iV (IntKind.i64.wrap ((b.p.length:Int)-1))=iV ((b.p.length:Int)-1):=qaP (by omega) (by omega)
   by_cases a3:b.w.length+1=b.p.length
   ·have hl:((b.w.length:Int) !=(b.p.length:Int)-1)=false:=by simp;omega
    have t:=qd6 (l:=b.p) (by omega)
    by_cases a4:OneB b.p
    ·rw[qea fun k=>k a4] at t
     have hp1:decide ((b.p.length:Int)<1)=false:=df (by omega)
     have hp2:decide ((b.p.length:Int)>64)=false:=df (by omega)
     have step1:∀ k,(∀ j,j<k→∀ x,b.p[j]?=some x→-1≤x∧x≤65535)→∀ {e:Exit} {tm2:TmL} {hp2:HpL},k≤b.p.length→
      Rl 2 2 26 0 98 3 [(1,.pp 2 0),(3,.pv (iV (b.p.length:Int))),(4,.pv (iV (k:Int)))] [(2,0,.ls 0 b.p.length),(2,1,.ls 1 b.w.length),(0,0,zrI b.p),(1,0,zrI b.w)] e tm2 hp2→
      Rl 2 2 26 0 98 3 [(1,.pp 2 0),(3,.pv (iV (b.p.length:Int))),(4,.pv (iV ((0:Nat):Int)))] [(2,0,.ls 0 b.p.length),(2,1,.ls 1 b.w.length),(0,0,zrI b.p),(1,0,zrI b.w)] e tm2 hp2:=by
      intro k hk e tm2 hp2 hkl r
      refine RunsL.rounds (fun j=>[(1,.pp 2 0),(3,.pv (iV (b.p.length:Int))),(4,.pv (iV (j:Int)))]) (fun _=>[(2,0,.ls 0 b.p.length),(2,1,.ls 1 b.w.length),(0,0,zrI b.p),(1,0,zrI b.w)]) (N:=k) k 0 (Nat.zero_add _) (fun j _ hj r=>?_) r
      obtain⟨x,hx⟩:=qal (l:=b.p) (k:=j) (by omega)
      obtain⟨q1,q2⟩:=hk j hj x hx
      exact qrH (hk:=hx) (hin:=qao (qat hx)) (hlt:=dt (by omega)) (hlo:=df (by omega)) (hhi:=df (by omega)) (hs:=qap (by omega)) r
     rcases qaC (fun j=>∀ x,b.p[j]?=some x→-1≤x∧x≤65535) b.p.length with h | ⟨j,hj,hb,hf⟩
     ·have hr:∀ x∈b.p,-1≤x∧x≤65535:=fun x hx=>by
       obtain⟨k,hk,rfl⟩:=List.getElem_of_mem hx
       exact h k hk _ (List.getElem?_eq_getElem hk)
      have l1:=step1 b.p.length h (Nat.le_refl _) (qki (hge:=df (by omega)))
      have nx:∀ j,j<b.w.length→Fn 52 2 [.ag [.ls 0 b.p.length,.ls 1 b.w.length],.pv (iV (2*(j:Int)+1))] [(0,0,.row 3 1 b.p.length (ziV b.p)),(1,0,.row 3 1 b.w.length (ziV b.w))] (.pv (iV (b.nd (2*j+1)))) 0 []:=fun j hj=>qbG rfl rfl a3 (by omega) (i:=2*j+1) (by omega) (by omega)
      have ny:∀ j,j<b.w.length→Fn 52 2 [.ag [.ls 0 b.p.length,.ls 1 b.w.length],.pv (iV (2*(j:Int)+2))] [(0,0,.row 3 1 b.p.length (ziV b.p)),(1,0,.row 3 1 b.w.length (ziV b.w))] (.pv (iV (b.nd (2*j+2)))) 0 []:=fun j hj=>qbG rfl rfl a3 (by omega) (i:=2*j+2) (by omega) (by omega)
      have wm:∀ j,j<b.w.length→iV (IntKind.i64.wrap (2*(j:Int)))=iV (2*(j:Int)):=fun j hj=>qaP (by omega) (by omega)
      have wa:∀ j,j<b.w.length→iV (IntKind.i64.wrap (2*(j:Int)+1))=iV (2*(j:Int)+1):=fun j hj=>qaP (by omega) (by omega)
      have wb:∀ j,j<b.w.length→iV (IntKind.i64.wrap (2*(j:Int)+2))=iV (2*(j:Int)+2):=fun j hj=>qaP (by omega) (by omega)
      have step2:∀ k,(∀ j,j<k→(b.nd j=b.nd (2*j+1)∨b.nd j=b.nd (2*j+2))∧(b.nd j = -1→b.nd (2*j+1) = -1∧b.nd (2*j+2) = -1))→∀ {e:Exit} {tm2:TmL} {hp2:HpL},k≤b.w.length→
       Rl 2 2 26 1 98 3 [(1,.pp 2 0),(5,.pv (iV (k:Int)))] [(2,0,.ls 0 b.p.length),(2,1,.ls 1 b.w.length),(0,0,zrI b.p),(1,0,zrI b.w)] e tm2 hp2→
       Rl 2 2 26 1 98 3 [(1,.pp 2 0),(5,.pv (iV ((0:Nat):Int)))] [(2,0,.ls 0 b.p.length),(2,1,.ls 1 b.w.length),(0,0,zrI b.p),(1,0,zrI b.w)] e tm2 hp2:=by
       intro k hk e tm2 hp2 hkl r
       refine RunsL.rounds (fun j=>[(1,.pp 2 0),(5,.pv (iV (j:Int)))]) (fun _=>[(2,0,.ls 0 b.p.length),(2,1,.ls 1 b.w.length),(0,0,zrI b.p),(1,0,zrI b.w)]) (N:=k) k 0 (Nat.zero_add _) (fun j _ hj r=>?_) r
       have hjl:j<b.w.length:=by omega
       have hx:=qbQ hjl
       obtain⟨q1,q2⟩:=hk j hj
       by_cases c1:b.nd j=b.nd (2*j+1)
       ·by_cases c3:b.nd j = -1
        ·obtain⟨d1,d2⟩:=q2 c3
         exact qpA (hk:=hx) (hin:=qao hjl) (hlt:=dt (by omega)) (hm:=wm j hjl) (ha:=wa j hjl) (hx:=nx j hjl) (hb:=wb j hjl) (hy:=ny j hjl) (q1:=by simp[c1]) (q3:=by simp[c3]) (q5:=by simp[d1]) (q6:=by simp[d2]) (hs:=qap (by omega)) r
        ·exact qqw (hk:=hx) (hin:=qao hjl) (hlt:=dt (by omega)) (hm:=wm j hjl) (ha:=wa j hjl) (hx:=nx j hjl) (hb:=wb j hjl) (hy:=ny j hjl) (q1:=by simp[c1]) (q3:=by simpa using c3) (hs:=qap (by omega)) r
       ·have c2:=q1.resolve_left c1
        have c3:¬ b.nd j = -1:=fun c3=>c1 (by have:=(q2 c3).1;omega)
        exact qpE (hk:=hx) (hin:=qao hjl) (hlt:=dt (by omega)) (hm:=wm j hjl) (ha:=wa j hjl) (hx:=nx j hjl) (hb:=wb j hjl) (hy:=ny j hjl) (q1:=by simpa using c1) (q2:=by simp[c2]) (q3:=by simpa using c3) (hs:=qap (by omega)) r
      rcases qaC (fun j=>(b.nd j=b.nd (2*j+1)∨b.nd j=b.nd (2*j+2))∧(b.nd j = -1→b.nd (2*j+1) = -1∧b.nd (2*j+2) = -1)) b.w.length with h' | ⟨j,hj,hb,hf⟩
      ·rw[qcS ⟨by omega,by omega,a3,hr,a4,h'⟩]
       exact qpv (h1:=hp1) (hh:=hp2) (hs:=hs) (hl:=hl) (h2:=t) (r0:=l1) (r1:=step2 b.w.length h' (Nat.le_refl _) (qkh (hge:=df (by omega))))
      ·rw[qaM fun V=>hb (V.kid j hj)]
       refine qry (h1:=hp1) (hh:=hp2) (hs:=hs) (hl:=hl) (h2:=t) (r0:=l1) (r1:=step2 j hf (by omega) ?_)
       have hx:=qbQ hj
       by_cases c1:b.nd j=b.nd (2*j+1)
       ·have c3:b.nd j = -1:=Classical.byContradiction fun c3=>hb ⟨Or.inl c1,fun e=>(c3 e).elim⟩
        have c4:b.nd (2*j+2)≠-1:=fun c4=>hb ⟨Or.inl c1,fun e=>⟨by omega,c4⟩⟩
        exact qql (hk:=hx) (hin:=qao hj) (hlt:=dt (by omega)) (hm:=wm j hj) (ha:=wa j hj) (hx:=nx j hj) (hb:=wb j hj) (hy:=ny j hj) (q1:=by simp[c1]) (q3:=by simp[c3]) (q5:=by simp;omega) (q6:=by simpa using c4)
       ·by_cases c2:b.nd j=b.nd (2*j+2)
        ·have c3:b.nd j = -1:=Classical.byContradiction fun c3=>hb ⟨Or.inr c2,fun e=>(c3 e).elim⟩
         exact qqv (hk:=hx) (hin:=qao hj) (hlt:=dt (by omega)) (hm:=wm j hj) (ha:=wa j hj) (hx:=nx j hj) (hb:=wb j hj) (hy:=ny j hj) (q1:=by simpa using c1) (q2:=by simp[c2]) (q3:=by simp[c3]) (q5:=by simp;omega)
        ·exact qqM (hk:=hx) (hin:=qao hj) (hlt:=dt (by omega)) (hm:=wm j hj) (ha:=wa j hj) (hx:=nx j hj) (hb:=wb j hj) (hy:=ny j hj) (q1:=by simpa using c1) (q2:=by simpa using c2)
     ·simp only[Classical.not_forall] at hb
      obtain⟨x,hx,hno⟩:=hb
      rw[qaM fun V=>hno (V.rng x (List.mem_of_getElem? hx))]
      refine qr2 (h1:=hp1) (hh:=hp2) (hs:=hs) (hl:=hl) (h2:=t) (r0:=step1 j hf (by omega) ?_)
      by_cases c:x < -1
      ·exact qnC (hk:=hx) (hin:=qao hj) (hlt:=dt (by omega)) (hlo:=dt c)
      ·exact qnZ (hk:=hx) (hin:=qao hj) (hlt:=dt (by omega)) (hlo:=df c) (hhi:=dt (by omega))
    ·rw[qeG a4] at t
     rw[qaM fun V=>a4 V.one]
     exact qng (h1:=df (by omega)) (hh:=df (by omega)) (hs:=hs) (hl:=hl) (h2:=t)
   ·rw[qaM fun V=>a3 V.w]
    exact qnK (h1:=df (by omega)) (hh:=df (by omega)) (hs:=hs) (hl:=by simp;omega)
theorem qnw {b:Br} (h1:b.p.length≤70) (h2:b.w.length≤70):qfN 23 b:=by
 have c1:=qln h1 h2
 unfold qdz at c1
 by_cases V:VB b
 ·rw[qcS V] at c1
  have c2:=qbG (b:=b) rfl rfl V.w (by omega) (i:=0) (by omega) (z:=0) rfl
  unfold qfN
  by_cases h0:b.nd 0<0
  ·rw[(qky V h0).1,(qky V h0).2]
   exact qpW (hc:=c1) (hn:=c2) (hx:=dt h0)
  ·rw[(qkl V h0).1,(qkl V h0).2]
   exact qoX (hc:=c1) (hn:=c2) (hx:=df h0)
 ·rw[qaM V] at c1
  unfold qfN
  rw[(qgi V).1,(qgi V).2]
  exact qnU (hc:=c1)
theorem qod:∀ (d j:Nat),(wy j).length=d→j≤126→∀ (vs:List Value) (n:Nat),n+d≤1000→
 Rl 2 2 53 0 22 4 [(5,.ls 3 n),(6,.pv (iV (j:Int)))] [(3,0,.row 3 1 n vs)] (.exit 0) [(5,.ls 3 (n+d))] [(3,0,.row 3 1 (n+d) (vs++ziV (wyV j)))]:=by
 intro d
 induction d with
 | zero=>
  intro j hj hj2 vs n hn
  have hj0:j=0:=by
   match j,hj,hj2 with
   | 0,_,_=>rfl
   | i+1,h,h2=>rw[qbC (by omega)] at h;cases h
  subst hj0
  have e:vs++ziV (wyV 0)=vs:=by show vs++[]=vs;rw[List.append_nil]
  rw[e]
  exact qov (h0:=df (by omega))
 | succ d ih=>
  intro j hj hj2 vs n hn
  obtain⟨i,rfl⟩:∃ i,j=i+1:=by
   match j,hj with
   | 0,h=>cases h
   | i+1,_=>exact⟨i,rfl⟩
  rw[qbC (by omega),List.length_cons] at hj
  have hl:=qgO (i/2)
  have r:=ih (i/2) (by omega) (by omega) (vs++[iV ((i/2:Nat):Int)]) (n+1) (by omega)
  rw[show n+1+d=n+(d+1) by omega,List.append_assoc] at r
  rw[qgh (by omega)]
  exact qkw (x:=(i:Int)) (y:=((i/2:Nat):Int)) (h0:=dt (by omega)) (h1:=by rw[qaP (by omega) (by omega)];congr 1;omega) (nz:=by decide) (hq:=by
   rw[show Int.tdiv (i:Int) 2=((i/2:Nat):Int) from rfl]
   exact qaP (by omega) (by omega)) (hn:=by omega) r
theorem qsN {b:Br} (V:VB b) {z:Int} (hz:0≤z∧z<b.p.length):Fn 53 2 [brS 0 1 b,.pv (iV z)] [(0,0,zrI b.p),(1,0,zrI b.w)] (.ls 2 (wyV (b.w.length+z.toNat)).length) 1 [(2,0,zrI (wyV (b.w.length+z.toNat)))]:=by
 have hw:=V.w
 have hn:=V.n2
 have hwl:=qgO (b.w.length+z.toNat)
 have r:=qod _ (b.w.length+z.toNat) rfl (by omega) [] 0 (by omega)
 rw[Nat.zero_add,List.nil_append] at r
 have e:(wyV (b.w.length+z.toNat)).length=(wy (b.w.length+z.toNat)).length:=by unfold wyV;rw[List.length_map]
 unfold zrI
 rw[e]
 exact qlV (z:=((b.w.length+z.toNat:Nat):Int)) (hs:=by rw[qaP (by omega) (by omega)];congr 1;omega) (r0:=r)
theorem qrP {b:Br} (h1:b.p.length≤70) (h2:b.w.length≤70) (z:Int):qd4 24 b z:=by
 have c1:=qln h1 h2
 unfold qdz at c1
 unfold qd4
 by_cases V:VB b
 ·rw[qcS V] at c1
  by_cases h0:0≤z∧z<b.p.length
  ·rw[(qkM V h0).1,(qkM V h0).2]
   exact qpp (hc:=c1) (h1:=df (by omega)) (h2:=df (by omega)) (hy:=qsN V h0)
  ·rw[(qgA V h0).1,(qgA V h0).2]
   by_cases hz:z<0
   ·exact qpn (qp2 (hc:=c1) (h1:=dt hz))
   ·exact qpn (qoU (hc:=c1) (h1:=df hz) (h2:=dt (by omega)))
 ·rw[qaM V] at c1
  rw[(qgn V).1,(qgn V).2]
  exact qpn (qm2 (hc:=c1))
section
variable {s:List Pt} {tn td:Int} (htn:I64 tn) (htd:I64 td)
include htn htd in
theorem qgB (hs:Val s) {x y:Int} (hx:InF s x) (hy:InF s y):Fn 74 1 [qaw 0 s,.pv (qab tn td),.pv (iV x),.pv (iV y)] [(0,0,qai s)] (.pv (iV (won s tn td x y))) 0 []:=by
 rcases hx with rfl | ⟨p,hp,ex⟩
 ·have e:won s tn td (-1) y=y:=by unfold won;rw[if_pos (by omega)]
  rw[e]
  exact qss (hx:=dt (by omega))
 ·have p0:=qcn hs hp
  rcases hy with rfl | ⟨q,hq,ey⟩
  ·have e:won s tn td x (-1)=x:=by unfold won;rw[if_neg (by omega),if_pos (Or.inl (by omega))]
   rw[e]
   exact qrG (hx:=df (by omega)) (hy:=dt (by omega))
  ·have q0:=qcn hs hq
   rw[qqh hs hp hq ex ey]
   obtain⟨i,hi,hip⟩:=List.getElem_of_mem hp
   obtain⟨k,hk,hkq⟩:=List.getElem_of_mem hq
   have hi':s[i]?=some p:=by rw[List.getElem?_eq_getElem hi,hip]
   have hk':s[k]?=some q:=by rw[List.getElem?_eq_getElem hk,hkq]
   have hl:Pure Try.prog 85 #[ptV p,ptV q,qab tn td] (.bool (ld tn td p q)):=qlo htn htd (hs.ok p hp) (hs.ok q hq)
   cases h:ld tn td p q
   ·rw[if_neg (by decide)]
    rw[h] at hl
    exact qrd (hx:=df (by omega)) (hy:=df (by omega)) (hp:=hi') (hip:=qao hi) (a1:=qe7 hs hi' ex) (hq:=hk') (hiq:=qao hk) (a2:=qe7 hs hk' ey) (hl:=hl)
   ·rw[if_pos rfl]
    rw[h] at hl
    exact qsc (hx:=df (by omega)) (hy:=df (by omega)) (hp:=hi') (hip:=qao hi) (a1:=qe7 hs hi' ex) (hq:=hk') (hiq:=qao hk) (a2:=qe7 hs hk' ey) (hl:=hl)
theorem qh7 (hs:Val s) (i:Int):∃ u,Fn 58 1 [qaw 0 s,.pv (iV i)] [(0,0,qai s)] (.pv (iV u)) 0 []∧((u<0∧¬ ∃ q∈s,q.id=i)∨(0≤u∧∃ q∈s,q.id=i)):=by
 by_cases h:∃ q∈s,q.id=i
 ·obtain⟨q,hq,he⟩:=h
  obtain⟨k,hk,hkq⟩:=List.getElem_of_mem hq
  exact⟨k,qe7 hs (k:=k) (p:=q) (by rw[List.getElem?_eq_getElem hk,hkq]) he,Or.inr ⟨by omega,q,hq,he⟩⟩
 ·exact⟨-1,qrl hs.len (fun p hp e=>h ⟨p,hp,e⟩),Or.inl ⟨by omega,h⟩⟩
theorem qdN (hs:Val s) {l:List Int} {n:Nat} (hl:l.length=n) (hn:n≤1000000):Fn 30 2 [qaw 0 s,.ls 1 n] [(0,0,qai s),(1,0,.row 3 1 n (ziV l))] (.pv (.bool (pB (KnB s l)))) 0 []:=by
 subst hl
 have step:∀ k,(∀ j,j<k→∀ x,l[j]?=some x→x≠-1→∃ q∈s,q.id=x)→∀ {e:Exit} {tm2:TmL} {hp2:HpL},k≤l.length→
  Rl 2 2 30 0 26 3 [(1,.ls 1 l.length),(2,.pp 2 0),(5,.pv (iV (k:Int)))] [(2,0,.ls 0 s.length),(0,0,qai s),(1,0,zrI l)] e tm2 hp2→
  Rl 2 2 30 0 26 3 [(1,.ls 1 l.length),(2,.pp 2 0),(5,.pv (iV ((0:Nat):Int)))] [(2,0,.ls 0 s.length),(0,0,qai s),(1,0,zrI l)] e tm2 hp2:=by
  intro k hk e tm2 hp2 hkl r
  refine RunsL.rounds (fun j=>[(1,.ls 1 l.length),(2,.pp 2 0),(5,.pv (iV (j:Int)))]) (fun _=>[(2,0,.ls 0 s.length),(0,0,qai s),(1,0,zrI l)]) (N:=k) k 0 (Nat.zero_add _) (fun j _ hj r=>?_) r
  obtain⟨x,hx⟩:=qal (l:=l) (k:=j) (by omega)
  by_cases h0:x = -1
  ·exact qlO (hk:=hx) (hin:=qao (qat hx)) (hlt:=dt (by omega)) (hx:=by simp[h0]) (hs:=qap (by omega)) r
  ·obtain⟨u,a1,a2⟩:=qh7 hs x
   rcases a2 with ⟨_,a2⟩ | ⟨a2,_⟩
   ·exact (a2 (hk j hj x hx h0)).elim
   ·exact qk0 (hk:=hx) (hin:=qao (qat hx)) (hlt:=dt (by omega)) (hx:=by simpa using h0) (ha:=a1) (hv:=df (by omega)) (hs:=qap (by omega)) r
 rcases qaC (fun j=>∀ x,l[j]?=some x→x≠-1→∃ q∈s,q.id=x) l.length with h | ⟨j,hj,hb,hf⟩
 ·rw[qeG (p:=KnB s l) fun x hx=>by
   obtain⟨k,hk,rfl⟩:=List.getElem_of_mem hx
   exact h k hk _ (List.getElem?_eq_getElem hk)]
  exact qmv (r0:=step l.length h (Nat.le_refl _) (qmK (hge:=df (by omega))))
 ·simp only[Classical.not_forall] at hb
  obtain⟨x,hx,h0,hno⟩:=hb
  rw[qea (p:=KnB s l) fun h=>hno (h x (List.mem_of_getElem? hx) h0)]
  obtain⟨u,a1,a2⟩:=qh7 hs x
  rcases a2 with ⟨a2,_⟩ | ⟨_,a2⟩
  ·exact qp4 (r0:=step j hf (by omega) (qlR (hk:=hx) (hin:=qao hj) (hlt:=dt (by omega)) (hx:=by simpa using h0) (ha:=a1) (hv:=dt a2)))
  ·exact (hno a2).elim
include htn htd in
theorem qe9 (hs:Val s) {p:List Int} (hl:p.length≤100000) {n:Nat} (hn:n+1=p.length):∀ (k:Nat) (m:List Int) (z:Int),k≤n→m.length=n→z=(k:Int)-1→Mk s tn td p m k→
 Rl 2 2 51 0 43 9 [(3,.pp 2 0),(4,.pp 3 0),(6,.pp 4 0),(7,.pp 8 0),(8,.pv (iV z))]
  [(2,0,.ls 0 s.length),(3,0,.pv (iV tn)),(3,1,.pv (iV td)),(4,0,.pv (.slice none 0 0)),(4,1,.pv (.slice none 0 0)),(8,0,.ls 6 p.length),(8,1,.ls 7 n),(0,0,qai s),(1,0,zrI p),(6,0,zrI p),(7,0,.row 3 1 n (ziV m))]
  (.exit 0) [(6,.pp 4 0),(7,.pp 8 0)]
  [(2,0,.ls 0 s.length),(3,0,.pv (iV tn)),(3,1,.pv (iV td)),(4,0,.pv (.slice none 0 0)),(4,1,.pv (.slice none 0 0)),(8,0,.ls 6 p.length),(8,1,.ls 7 n),(0,0,qai s),(1,0,zrI p),(6,0,zrI p),(7,0,.row 3 1 n (ziV (bld s tn td p).w))]
 | 0,m,z,_,_,hz,M=>by
  have:=M.all (by omega)
  subst this
  exact qmU (h0:=df (by omega))
 | k+1,m,z,hk,hm,hz,M=>by
  have hzk:z=(k:Int):=by omega
  have ht':z.toNat=k:=by omega
  have r:=qe9 hs hl hn k _ (z-1) (by omega) (by rw[List.length_set];exact hm) (by omega) (M.next (by omega))
  exact qkN (m:=m) (n:=n) (l:=p) (z:=z) (z2:=2*z) (e1:=2*z+1) (e2:=2*z+2) (z4:=z-1) (h0:=dt (by omega)) (hm:=qaP (by omega) (by omega)) (ha:=qaP (by omega) (by omega)) (hx:=qbG (b:=⟨p,m⟩) hm rfl hn hl (i:=2*k+1) (by omega) (by omega)) (hb:=qaP (by omega) (by omega)) (hy:=qbG (b:=⟨p,m⟩) hm rfl hn hl (i:=2*k+2) (by omega) (by omega))
   (hw:=qgB htn htd hs (M.inf (2*k+1) (by omega) (by omega)) (M.inf (2*k+2) (by omega) (by omega))) (hix:=⟨by omega,by omega⟩) (hg:=by rw[ht',hm];omega) (hd:=qaP (by omega) (by omega)) (by rw[ht'];exact r)
include htn htd in
theorem qqD (hs:Val s) {p:List Int} (n1:1≤p.length) (hl:p.length≤100000) (hk:KnB s p):Fn 51 2 [qaw 0 s,.pv (qab tn td),.ls 1 p.length] [(0,0,qai s),(1,0,zrI p)] (.ag [.ls 2 p.length,.ls 3 (p.length-1)]) 2 [(2,0,zrI p),(3,0,.row 3 1 (p.length-1) (ziV (bld s tn td p).w))]:=
 qkj (z:=((p.length-1:Nat):Int)-1) (nl:=by omega) (hs:=by rw[qaP (by omega) (by omega)];congr 1;omega) (n0:=by omega) (n1:=by omega) (hd:=qaP (by omega) (by omega))
  (r0:=qe9 htn htd hs hl (by omega) (p.length-1) _ _ (Nat.le_refl _) List.length_replicate rfl (Mk.zero (by omega) hk))
include htn htd in
theorem qpL (p:List Int) (hp:p.length≤70):qbS 22 s tn td p:=by
 have c1:=qfn htn htd s
 unfold qbS
 by_cases ht:tE s tn td=0
 ·obtain⟨hs,hok⟩:=qcI ht
  rw[ht] at c1
  by_cases a1:p.length<1
  ·have e:buE s tn td p=2:=by unfold buE;rw[if_pos ht,if_neg (by omega)]
   have er:buR s tn td p=⟨[],[]⟩:=by unfold buR;rw[if_neg (by rw[e];decide)]
   rw[er,e]
   exact qkC (qp9 (ht:=c1) (h1:=dt (by omega)))
  ·by_cases a2:p.length>64
   ·have e:buE s tn td p=2:=by unfold buE;rw[if_pos ht,if_neg (by omega)]
    have er:buR s tn td p=⟨[],[]⟩:=by unfold buR;rw[if_neg (by rw[e];decide)]
    rw[er,e]
    exact qkC (qo9 (ht:=c1) (h1:=df (by omega)) (hh:=dt (by omega)))
   ·have c2:=qdN hs (l:=p) rfl (by omega)
    have c3:=qd6 (l:=p) (by omega)
    by_cases hk:KnB s p
    ·rw[qeG hk] at c2
     by_cases ho:OneB p
     ·rw[qea fun k=>k ho] at c3
      have e:buE s tn td p=0:=by unfold buE;rw[if_pos ht,if_pos ⟨by omega,by omega⟩,if_pos hk,if_pos ho]
      have er:buR s tn td p=bld s tn td p:=by unfold buR;rw[if_pos e]
      have hl:(bld s tn td p).w.length=p.length-1:=qcl p
      rw[er,e]
      have:=qpP (ht:=c1) (h1:=df (by omega)) (hh:=df (by omega)) (hkn:=c2) (h2:=c3) (hbt:=qqD htn htd hs (by omega) (by omega) hk)
      unfold qoZ zrI
      rw[hl]
      exact this
     ·rw[qeG ho] at c3
      have e:buE s tn td p=14:=by unfold buE;rw[if_pos ht,if_pos ⟨by omega,by omega⟩,if_pos hk,if_neg ho]
      have er:buR s tn td p=⟨[],[]⟩:=by unfold buR;rw[if_neg (by rw[e];decide)]
      rw[er,e]
      exact qkC (qou (ht:=c1) (h1:=df (by omega)) (hh:=df (by omega)) (hkn:=c2) (h2:=c3))
    ·rw[qea hk] at c2
     have e:buE s tn td p=6:=by unfold buE;rw[if_pos ht,if_pos ⟨by omega,by omega⟩,if_neg hk]
     have er:buR s tn td p=⟨[],[]⟩:=by unfold buR;rw[if_neg (by rw[e];decide)]
     rw[er,e]
     exact qkC (qqd (ht:=c1) (h1:=df (by omega)) (hh:=df (by omega)) (hkn:=c2))
 ·have e:buE s tn td p=tE s tn td:=by unfold buE;rw[if_neg ht]
  have er:buR s tn td p=⟨[],[]⟩:=by unfold buR;rw[if_neg (by rw[e];exact ht)]
  rw[er,e]
  exact qkC (qj1 (ht:=c1) (he:=by simpa using ht))
variable {b:Br} {z x:Int}
include htn htd in
theorem qrD (V:VB b) (hs:Val s) (hk:KnB s b.p):Fn 54 3 [brS 0 1 b,qaw 2 s,.pv (qab tn td)] [(0,0,zrI b.p),(1,0,zrI b.w),(2,0,qai s)] (.pv (.bool (pB (RtB s tn td b)))) 0 []:=by
 have hw:=V.w
 have hn:=V.n2
 have inf:∀ i,i≤2*b.w.length→InF s (b.nd i):=fun i hi=>qor hk (qgE V.w (fun i hi=>(V.kid i hi).1) (2*b.w.length-i) i (by omega))
 have nx:∀ j,j<b.w.length→Fn 52 2 [.ag [.ls 0 b.p.length,.ls 1 b.w.length],.pv (iV (2*(j:Int)+1))] [(0,0,.row 3 1 b.p.length (ziV b.p)),(1,0,.row 3 1 b.w.length (ziV b.w))] (.pv (iV (b.nd (2*j+1)))) 0 []:=fun j hj=>qbG rfl rfl V.w (by omega) (i:=2*j+1) (by omega) (by omega)
 have ny:∀ j,j<b.w.length→Fn 52 2 [.ag [.ls 0 b.p.length,.ls 1 b.w.length],.pv (iV (2*(j:Int)+2))] [(0,0,.row 3 1 b.p.length (ziV b.p)),(1,0,.row 3 1 b.w.length (ziV b.w))] (.pv (iV (b.nd (2*j+2)))) 0 []:=fun j hj=>qbG rfl rfl V.w (by omega) (i:=2*j+2) (by omega) (by omega)
 have nw:∀ j,j<b.w.length→Fn 74 1 [qaw 0 s,.pv (qab tn td),.pv (iV (b.nd (2*j+1))),.pv (iV (b.nd (2*j+2)))] [(0,0,qai s)] (.pv (iV (won s tn td (b.nd (2*j+1)) (b.nd (2*j+2))))) 0 []:=fun j hj=>qgB htn htd hs (inf _ (by omega)) (inf _ (by omega))
 have step:∀ k,(∀ j,j<k→b.nd j=won s tn td (b.nd (2*j+1)) (b.nd (2*j+2)))→∀ {e:Exit} {tm2:TmL} {hp2:HpL},k≤b.w.length→
  Rl 3 3 54 0 34 6 [(3,.pp 3 0),(4,.pp 4 0),(5,.pp 5 0),(7,.pv (iV (k:Int)))] [(3,0,.ls 0 b.p.length),(3,1,.ls 1 b.w.length),(4,0,.ls 2 s.length),(5,0,.pv (iV tn)),(5,1,.pv (iV td)),(0,0,zrI b.p),(1,0,zrI b.w),(2,0,qai s)] e tm2 hp2→
  Rl 3 3 54 0 34 6 [(3,.pp 3 0),(4,.pp 4 0),(5,.pp 5 0),(7,.pv (iV ((0:Nat):Int)))] [(3,0,.ls 0 b.p.length),(3,1,.ls 1 b.w.length),(4,0,.ls 2 s.length),(5,0,.pv (iV tn)),(5,1,.pv (iV td)),(0,0,zrI b.p),(1,0,zrI b.w),(2,0,qai s)] e tm2 hp2:=by
  intro k hk e tm2 hp2 hkl r
  refine RunsL.rounds (fun j=>[(3,.pp 3 0),(4,.pp 4 0),(5,.pp 5 0),(7,.pv (iV (j:Int)))]) (fun _=>[(3,0,.ls 0 b.p.length),(3,1,.ls 1 b.w.length),(4,0,.ls 2 s.length),(5,0,.pv (iV tn)),(5,1,.pv (iV td)),(0,0,zrI b.p),(1,0,zrI b.w),(2,0,qai s)]) (N:=k) k 0 (Nat.zero_add _) (fun j _ hj r=>?_) r
  have hjl:j<b.w.length:=by omega
  exact qlq (hk:=qbQ hjl) (hin:=qao hjl) (hlt:=dt (by omega)) (hm:=qaP (by omega) (by omega)) (ha:=qaP (by omega) (by omega)) (hx:=nx j hjl) (hb:=qaP (by omega) (by omega)) (hy:=ny j hjl) (hw:=nw j hjl) (hv:=by simp;exact hk j hj) (hs:=qap (by omega)) r
 rcases qaC (fun j=>b.nd j=won s tn td (b.nd (2*j+1)) (b.nd (2*j+2))) b.w.length with h | ⟨j,hj,hb,hf⟩
 ·rw[qeG (p:=RtB s tn td b) h]
  exact qmu (r0:=step b.w.length h (Nat.le_refl _) (qnH (hge:=df (by omega))))
 ·rw[qea (p:=RtB s tn td b) fun h=>hb (h j hj)]
  exact qqj (r0:=step j hf (by omega) (qoa (hk:=qbQ hj) (hin:=qao hj) (hlt:=dt (by omega)) (hm:=qaP (by omega) (by omega)) (ha:=qaP (by omega) (by omega)) (hx:=nx j hj) (hb:=qaP (by omega) (by omega)) (hy:=ny j hj) (hw:=nw j hj) (hv:=by simpa using hb)))
include htn htd in
theorem qoW (h1:b.p.length≤70) (h2:b.w.length≤70):qca 25 s tn td b:=by
 have c1:=qln h1 h2
 unfold qdz at c1
 have c2:=qfn htn htd s
 unfold qca
 by_cases V:VB b
 ·rw[qcS V] at c1
  by_cases ht:tE s tn td=0
  ·obtain⟨hs,hok⟩:=qcI ht
   rw[ht] at c2
   have c3:=qdN hs (l:=b.p) rfl (by omega)
   by_cases hk:KnB s b.p
   ·rw[qeG hk] at c3
    rw[(qgR V ht hk).1,(qgR V ht hk).2]
    exact qqG (hc:=c1) (ht:=c2) (hkn:=c3) (hf:=qrD htn htd V hs hk)
   ·rw[qea hk] at c3
    rw[(qkH V ht hk).1,(qkH V ht hk).2]
    exact qoR (hc:=c1) (ht:=c2) (hkn:=c3)
  ·rw[(qg6 V ht).1,(qg6 V ht).2]
   exact qkF (hc:=c1) (ht:=c2) (he:=by simpa using ht)
 ·rw[qaM V] at c1
  rw[(qgu V).1,(qgu V).2]
  exact qm4 (hc:=c1)
end
end Go.Proofs.Ytgbmdijodlfcaaa
