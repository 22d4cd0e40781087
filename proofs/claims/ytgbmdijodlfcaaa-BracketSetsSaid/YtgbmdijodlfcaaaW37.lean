/-
  Joined: Qi, Qj, Qn, Qk. Conditions: none.
-/
import Derived.Test.YtgbmdijodlfcaaaW36
import Derived.Test.YtgbmdijodlfcaaaW21
import Derived.Test.YtgbmdijodlfcaaaZj
import Derived.Test.YtgbmdijodlfcaaaW26
namespace Go.Proofs.Ytgbmdijodlfcaaa
set_option maxRecDepth 100000
open Go.RowKit
theorem qnY {l:List Int} (hn:l.length≤1000000):Fn 27 2 [.ls 0 l.length,.ls 1 l.length] [(0,0,zrI l),(1,0,zrI l)] (.pv (.bool true)) 0 []:=
 qmG (hl:=by simp) (r0:=RunsL.roundsZ (N:=l.length) (fun k=>[(0,.ls 0 l.length),(1,.ls 1 l.length),(5,.pv (iV (k:Int)))]) (fun _=>[(0,0,zrI l),(1,0,zrI l)]) l.length 0 (by omega) (fun k _ hk r=>by
  obtain⟨x,hx⟩:=qap hk
  exact qkF (hk:=hx) (hin:=qao hk) (hlt:=dt (by omega)) (hne:=by simp) (hs:=qal (by omega)) r) (qnC (hge:=df (by omega))))
theorem qig {b:Br} (h1:b.p.length≤1000000) (h2:b.w.length≤1000000):Fn 17 4 [brS 0 1 b,brS 2 3 b] [(0,0,zrI b.p),(1,0,zrI b.w),(2,0,zrI b.p),(3,0,zrI b.w)] (.pv (.bool true)) 0 []:=
 qsm (h1:=qnY h1) (h2:=qnY h2)
def qm0 (b:Br):Bool:=decide (70<b.p.length∨70<b.w.length)
theorem qnR (b:Br):Fn 20 2 [brS 0 1 b] [(0,0,zrI b.p),(1,0,zrI b.w)] (.pv (.bool (qm0 b))) 0 []:=by
 by_cases h1:70<b.p.length
 ·rw[show qm0 b=true from dt (Or.inl h1)];exact qr3 (h1:=dt (by omega))
 ·by_cases h2:70<b.w.length
  ·rw[show qm0 b=true from dt (Or.inr h2)];exact qr8 (h1:=df (by omega)) (h2:=dt (by omega))
  ·rw[show qm0 b=false from df (by omega)];exact qp5 (h1:=df (by omega)) (h2:=df (by omega))
theorem qnj {b:Br} (h:qm0 b=false):b.p.length≤70∧b.w.length≤70:=by
 have:=of_decide_eq_false h
 omega
theorem qpw {b:Br} (h1:b.p.length≤70) (h2:b.w.length≤70):Fn 21 2 [brS 0 1 b] [(0,0,zrI b.p),(1,0,zrI b.w)] (brS 2 3 b) 2 [(2,0,zrI b.p),(3,0,zrI b.w)]:=qtw (n1:=by omega) (n2:=by omega)
theorem qdb {b:Br} {n j:Nat} (hn:b.w.length=n) (hj:b.p.length=j) (hw:n+1=j) (hl:j≤100000) {i:Nat} (hi:i≤2*n) {z:Int} (hz:z=(i:Int)) :
 Fn 52 2 [.ag [.ls 0 j,.ls 1 n],.pv (iV z)] [(0,0,.row 3 1 j (ziV b.p)),(1,0,.row 3 1 n (ziV b.w))] (.pv (iV (b.nd i))) 0 []:=by
 by_cases h:i<n
 ·exact qo1 (h1:=dt (by omega)) (hin:=⟨by omega,by omega⟩) (hk:=by rw[hz,show (i:Int).toNat=i from rfl];exact qbN (by omega))
 ·exact qmz (y:=((i-n:Nat):Int)) (h1:=df (by omega)) (hs:=by rw[qbo (by omega) (by omega)];congr 1;omega) (hin:=⟨by omega,by omega⟩) (hk:=by
   have:=qg0 (b:=b) (i:=i) (by omega) (by omega)
   rw[hn] at this;exact this)
theorem qdR {l:List Int} (hn:l.length≤1000000):Fn 31 1 [.ls 0 l.length] [(0,0,zrI l)] (.pv (.bool (pB (¬ OneB l)))) 0 []:=by
 have inner:∀ (i:Nat) (x:Int),l[i]?=some x→∀ k,k≤i→(∀ j,j<k→∀ y,l[j]?=some y→¬ (0≤x∧y=x))→∀ {e:Exit} {tm2:TmL} {hp2:HpL},
  Rl 1 1 31 1 32 1 [(0,.ls 0 l.length),(3,.pv (iV (i:Int))),(4,.pv (iV (k:Int)))] [(0,0,zrI l)] e tm2 hp2→
  Rl 1 1 31 1 32 1 [(0,.ls 0 l.length),(3,.pv (iV (i:Int))),(4,.pv (iV ((0:Nat):Int)))] [(0,0,zrI l)] e tm2 hp2:=by
  intro i x hx k hk hno e tm2 hp2 r
  refine RunsL.rounds (fun j=>[(0,.ls 0 l.length),(3,.pv (iV (i:Int))),(4,.pv (iV (j:Int)))]) (fun _=>[(0,0,zrI l)]) (N:=k) k 0 (Nat.zero_add _) (fun j _ hj r=>?_) r
  have hil:=qas hx
  obtain⟨y,hy⟩:=qap (l:=l) (k:=j) (by omega)
  have hn':=hno j hj y hy
  by_cases h0:0≤x
  ·exact qm1 (hki:=dt (by omega)) (hi:=hx) (hii:=qao hil) (hk:=hy) (hin:=qao (by omega)) (h0:=dt h0) (he:=by simp;exact fun e=>hn' ⟨h0,e⟩) (hs:=qal (by omega)) r
  ·exact qm8 (hki:=dt (by omega)) (hi:=hx) (hii:=qao hil) (hk:=hy) (hin:=qao (by omega)) (h0:=df h0) (hs:=qal (by omega)) r
 have row:∀ (i:Nat) (x:Int),l[i]?=some x→((∀ j,j<i→∀ y,l[j]?=some y→¬ (0≤x∧y=x))∧Rl 1 1 31 1 32 1 [(0,.ls 0 l.length),(3,.pv (iV (i:Int))),(4,.pv (iV ((0:Nat):Int)))] [(0,0,zrI l)] (.exit 2) [(0,.ls 0 l.length),(3,.pv (iV (i:Int)))] [(0,0,zrI l)])∨
  ((∃ j,j<i∧l[j]?=some x∧0≤x)∧Rl 1 1 31 1 32 1 [(0,.ls 0 l.length),(3,.pv (iV (i:Int))),(4,.pv (iV ((0:Nat):Int)))] [(0,0,zrI l)] .ret [(2,.pv (.bool true))] []):=by
  intro i x hx
  rcases qaI (fun j=>∀ y,l[j]?=some y→¬ (0≤x∧y=x)) i with h | ⟨j,hj,hb,hf⟩
  ·exact Or.inl ⟨h,inner i x hx i (Nat.le_refl _) h (qk8 (hki:=df (by omega)))⟩
  ·simp only[Classical.not_forall,Classical.not_not] at hb
   obtain⟨y,hy,h0,rfl⟩:=hb
   have hil:=qas hx
   exact Or.inr ⟨⟨j,hj,hy,h0⟩,inner i y hx j (by omega) hf (qnm (hki:=dt (by omega)) (hi:=hx) (hii:=qao hil) (hk:=hy) (hin:=qao (by omega)) (h0:=dt h0) (he:=by simp))⟩
 have outer:∀ k,(∀ i,i<k→∀ x,l[i]?=some x→¬ ∃ j,j<i∧l[j]?=some x∧0≤x)→k≤l.length→∀ {e:Exit} {tm2:TmL} {hp2:HpL},
  Rl 1 1 31 0 32 1 [(0,.ls 0 l.length),(3,.pv (iV (k:Int)))] [(0,0,zrI l)] e tm2 hp2→
  Rl 1 1 31 0 32 1 [(0,.ls 0 l.length),(3,.pv (iV ((0:Nat):Int)))] [(0,0,zrI l)] e tm2 hp2:=by
  intro k hk hkl e tm2 hp2 r
  refine RunsL.rounds (fun j=>[(0,.ls 0 l.length),(3,.pv (iV (j:Int)))]) (fun _=>[(0,0,zrI l)]) (N:=k) k 0 (Nat.zero_add _) (fun i _ hi r=>?_) r
  obtain⟨x,hx⟩:=qap (l:=l) (k:=i) (by omega)
  rcases row i x hx with ⟨_,r1⟩ | ⟨h,_⟩
  ·exact qlD (hlt:=dt (by omega)) (r1:=r1) (hs:=qal (by omega)) r
  ·exact (hk i hi x hx h).elim
 rcases qaI (fun i=>∀ x,l[i]?=some x→¬ ∃ j,j<i∧l[j]?=some x∧0≤x) l.length with h | ⟨i,hi,hb,hf⟩
 ·have ho:OneB l:=fun i j x e1 e2 h0=>by
   rcases Nat.lt_trichotomy i j with a | a | a
   ·exact (h j (qas e2) x e2 ⟨i,a,e1,h0⟩).elim
   ·exact a
   ·exact (h i (qas e1) x e1 ⟨j,a,e2,h0⟩).elim
  rw[qfU fun k=>k ho]
  exact qpe (r0:=outer l.length h (Nat.le_refl _) (qmB (hge:=df (by omega))))
 ·simp only[Classical.not_forall,Classical.not_not] at hb
  obtain⟨x,hx,j,hj,hjx,h0⟩:=hb
  rw[qgx fun k=>by
   have:=k i j x hx hjx h0
   omega]
  refine qnP (r0:=outer i hf (by omega) ?_)
  rcases row i x hx with ⟨h,_⟩ | ⟨_,r1⟩
  ·exact (h j hj x hjx ⟨h0,rfl⟩).elim
  ·exact qnA (hlt:=dt (by omega)) (r1:=r1)
theorem qq1 {b:Br} (h1:b.p.length≤70) (h2:b.w.length≤70):qfZ 26 b:=by
 unfold qfZ
 by_cases a1:b.p.length<1
 ·rw[qa8 fun V=>by have:=V.n1;omega]
  exact qpf (h1:=dt (by omega))
 ·by_cases a2:b.p.length>64
  ·rw[qa8 fun V=>by have:=V.n2;omega]
   exact qo3 (h1:=df (by omega)) (hh:=dt (by omega))
  ·have hs:iV (IntKind.i64.wrap ((b.p.length:Int)-1))=iV ((b.p.length:Int)-1):=qbo (by omega) (by omega)
   by_cases a3:b.w.length+1=b.p.length
   ·have hl:((b.w.length:Int) !=(b.p.length:Int)-1)=false:=by simp;omega
    have t:=qdR (l:=b.p) (by omega)
    by_cases a4:OneB b.p
    ·rw[qfU fun k=>k a4] at t
     have hp1:decide ((b.p.length:Int)<1)=false:=df (by omega)
     have hp2:decide ((b.p.length:Int)>64)=false:=df (by omega)
     have step1:∀ k,(∀ j,j<k→∀ x,b.p[j]?=some x→-1≤x∧x≤65535)→∀ {e:Exit} {tm2:TmL} {hp2:HpL},k≤b.p.length→
      Rl 2 2 26 0 98 3 [(1,.pp 2 0),(3,.pv (iV (b.p.length:Int))),(4,.pv (iV (k:Int)))] [(2,0,.ls 0 b.p.length),(2,1,.ls 1 b.w.length),(0,0,zrI b.p),(1,0,zrI b.w)] e tm2 hp2→
      Rl 2 2 26 0 98 3 [(1,.pp 2 0),(3,.pv (iV (b.p.length:Int))),(4,.pv (iV ((0:Nat):Int)))] [(2,0,.ls 0 b.p.length),(2,1,.ls 1 b.w.length),(0,0,zrI b.p),(1,0,zrI b.w)] e tm2 hp2:=by
      intro k hk e tm2 hp2 hkl r
      refine RunsL.rounds (fun j=>[(1,.pp 2 0),(3,.pv (iV (b.p.length:Int))),(4,.pv (iV (j:Int)))]) (fun _=>[(2,0,.ls 0 b.p.length),(2,1,.ls 1 b.w.length),(0,0,zrI b.p),(1,0,zrI b.w)]) (N:=k) k 0 (Nat.zero_add _) (fun j _ hj r=>?_) r
      obtain⟨x,hx⟩:=qap (l:=b.p) (k:=j) (by omega)
      obtain⟨q1,q2⟩:=hk j hj x hx
      exact qr1 (hk:=hx) (hin:=qao (qas hx)) (hlt:=dt (by omega)) (hlo:=df (by omega)) (hhi:=df (by omega)) (hs:=qal (by omega)) r
     rcases qaI (fun j=>∀ x,b.p[j]?=some x→-1≤x∧x≤65535) b.p.length with h | ⟨j,hj,hb,hf⟩
     ·have hr:∀ x∈b.p,-1≤x∧x≤65535:=fun x hx=>by
       obtain⟨k,hk,rfl⟩:=List.getElem_of_mem hx
       exact h k hk _ (List.getElem?_eq_getElem hk)
      have l1:=step1 b.p.length h (Nat.le_refl _) (qlo (hge:=df (by omega)))
      have nx:∀ j,j<b.w.length→Fn 52 2 [.ag [.ls 0 b.p.length,.ls 1 b.w.length],.pv (iV (2*(j:Int)+1))] [(0,0,.row 3 1 b.p.length (ziV b.p)),(1,0,.row 3 1 b.w.length (ziV b.w))] (.pv (iV (b.nd (2*j+1)))) 0 []:=fun j hj=>qdb rfl rfl a3 (by omega) (i:=2*j+1) (by omega) (by omega)
      have ny:∀ j,j<b.w.length→Fn 52 2 [.ag [.ls 0 b.p.length,.ls 1 b.w.length],.pv (iV (2*(j:Int)+2))] [(0,0,.row 3 1 b.p.length (ziV b.p)),(1,0,.row 3 1 b.w.length (ziV b.w))] (.pv (iV (b.nd (2*j+2)))) 0 []:=fun j hj=>qdb rfl rfl a3 (by omega) (i:=2*j+2) (by omega) (by omega)
      have wm:∀ j,j<b.w.length→iV (IntKind.i64.wrap (2*(j:Int)))=iV (2*(j:Int)):=fun j hj=>qbo (by omega) (by omega)
      have wa:∀ j,j<b.w.length→iV (IntKind.i64.wrap (2*(j:Int)+1))=iV (2*(j:Int)+1):=fun j hj=>qbo (by omega) (by omega)
      have wb:∀ j,j<b.w.length→iV (IntKind.i64.wrap (2*(j:Int)+2))=iV (2*(j:Int)+2):=fun j hj=>qbo (by omega) (by omega)
      have step2:∀ k,(∀ j,j<k→(b.nd j=b.nd (2*j+1)∨b.nd j=b.nd (2*j+2))∧(b.nd j = -1→b.nd (2*j+1) = -1∧b.nd (2*j+2) = -1))→∀ {e:Exit} {tm2:TmL} {hp2:HpL},k≤b.w.length→
       Rl 2 2 26 1 98 3 [(1,.pp 2 0),(5,.pv (iV (k:Int)))] [(2,0,.ls 0 b.p.length),(2,1,.ls 1 b.w.length),(0,0,zrI b.p),(1,0,zrI b.w)] e tm2 hp2→
       Rl 2 2 26 1 98 3 [(1,.pp 2 0),(5,.pv (iV ((0:Nat):Int)))] [(2,0,.ls 0 b.p.length),(2,1,.ls 1 b.w.length),(0,0,zrI b.p),(1,0,zrI b.w)] e tm2 hp2:=by
       intro k hk e tm2 hp2 hkl r
       refine RunsL.rounds (fun j=>[(1,.pp 2 0),(5,.pv (iV (j:Int)))]) (fun _=>[(2,0,.ls 0 b.p.length),(2,1,.ls 1 b.w.length),(0,0,zrI b.p),(1,0,zrI b.w)]) (N:=k) k 0 (Nat.zero_add _) (fun j _ hj r=>?_) r
       have hjl:j<b.w.length:=by omega
       have hx:=qbN hjl
       obtain⟨q1,q2⟩:=hk j hj
       by_cases c1:b.nd j=b.nd (2*j+1)
       ·by_cases c3:b.nd j = -1
        ·obtain⟨d1,d2⟩:=q2 c3
         exact qql (hk:=hx) (hin:=qao hjl) (hlt:=dt (by omega)) (hm:=wm j hjl) (ha:=wa j hjl) (hx:=nx j hjl) (hb:=wb j hjl) (hy:=ny j hjl) (q1:=by simp[c1]) (q3:=by simp[c3]) (q5:=by simp[d1]) (q6:=by simp[d2]) (hs:=qal (by omega)) r
        ·exact qqp (hk:=hx) (hin:=qao hjl) (hlt:=dt (by omega)) (hm:=wm j hjl) (ha:=wa j hjl) (hx:=nx j hjl) (hb:=wb j hjl) (hy:=ny j hjl) (q1:=by simp[c1]) (q3:=by simpa using c3) (hs:=qal (by omega)) r
       ·have c2:=q1.resolve_left c1
        have c3:¬ b.nd j = -1:=fun c3=>c1 (by have:=(q2 c3).1;omega)
        exact qoP (hk:=hx) (hin:=qao hjl) (hlt:=dt (by omega)) (hm:=wm j hjl) (ha:=wa j hjl) (hx:=nx j hjl) (hb:=wb j hjl) (hy:=ny j hjl) (q1:=by simpa using c1) (q2:=by simp[c2]) (q3:=by simpa using c3) (hs:=qal (by omega)) r
      rcases qaI (fun j=>(b.nd j=b.nd (2*j+1)∨b.nd j=b.nd (2*j+2))∧(b.nd j = -1→b.nd (2*j+1) = -1∧b.nd (2*j+2) = -1)) b.w.length with h' | ⟨j,hj,hb,hf⟩
      ·rw[qgq ⟨by omega,by omega,a3,hr,a4,h'⟩]
       exact qp7 (h1:=hp1) (hh:=hp2) (hs:=hs) (hl:=hl) (h2:=t) (r0:=l1) (r1:=step2 b.w.length h' (Nat.le_refl _) (qle (hge:=df (by omega))))
      ·rw[qa8 fun V=>hb (V.kid j hj)]
       refine qq0 (h1:=hp1) (hh:=hp2) (hs:=hs) (hl:=hl) (h2:=t) (r0:=l1) (r1:=step2 j hf (by omega) ?_)
       have hx:=qbN hj
       by_cases c1:b.nd j=b.nd (2*j+1)
       ·have c3:b.nd j = -1:=Classical.byContradiction fun c3=>hb ⟨Or.inl c1,fun e=>(c3 e).elim⟩
        have c4:b.nd (2*j+2)≠-1:=fun c4=>hb ⟨Or.inl c1,fun e=>⟨by omega,c4⟩⟩
        exact qoE (hk:=hx) (hin:=qao hj) (hlt:=dt (by omega)) (hm:=wm j hj) (ha:=wa j hj) (hx:=nx j hj) (hb:=wb j hj) (hy:=ny j hj) (q1:=by simp[c1]) (q3:=by simp[c3]) (q5:=by simp;omega) (q6:=by simpa using c4)
       ·by_cases c2:b.nd j=b.nd (2*j+2)
        ·have c3:b.nd j = -1:=Classical.byContradiction fun c3=>hb ⟨Or.inr c2,fun e=>(c3 e).elim⟩
         exact qo0 (hk:=hx) (hin:=qao hj) (hlt:=dt (by omega)) (hm:=wm j hj) (ha:=wa j hj) (hx:=nx j hj) (hb:=wb j hj) (hy:=ny j hj) (q1:=by simpa using c1) (q2:=by simp[c2]) (q3:=by simp[c3]) (q5:=by simp;omega)
        ·exact qoQ (hk:=hx) (hin:=qao hj) (hlt:=dt (by omega)) (hm:=wm j hj) (ha:=wa j hj) (hx:=nx j hj) (hb:=wb j hj) (hy:=ny j hj) (q1:=by simpa using c1) (q2:=by simpa using c2)
     ·simp only[Classical.not_forall] at hb
      obtain⟨x,hx,hno⟩:=hb
      rw[qa8 fun V=>hno (V.rng x (List.mem_of_getElem? hx))]
      refine qq4 (h1:=hp1) (hh:=hp2) (hs:=hs) (hl:=hl) (h2:=t) (r0:=step1 j hf (by omega) ?_)
      by_cases c:x < -1
      ·exact qnd (hk:=hx) (hin:=qao hj) (hlt:=dt (by omega)) (hlo:=dt c)
      ·exact qnG (hk:=hx) (hin:=qao hj) (hlt:=dt (by omega)) (hlo:=df c) (hhi:=dt (by omega))
    ·rw[qgx a4] at t
     rw[qa8 fun V=>a4 V.one]
     exact qmH (h1:=df (by omega)) (hh:=df (by omega)) (hs:=hs) (hl:=hl) (h2:=t)
   ·rw[qa8 fun V=>a3 V.w]
    exact qok (h1:=df (by omega)) (hh:=df (by omega)) (hs:=hs) (hl:=by simp;omega)
theorem qno:∀ (d j:Nat),(wy j).length=d→j≤126→∀ (vs:List Value) (n:Nat),n+d≤1000→
 Rl 2 2 53 0 22 4 [(5,.ls 3 n),(6,.pv (iV (j:Int)))] [(3,0,.row 3 1 n vs)] (.exit 0) [(5,.ls 3 (n+d))] [(3,0,.row 3 1 (n+d) (vs++ziV (wyV j)))]:=by
 intro d
 induction d with
 | zero=>
  intro j hj hj2 vs n hn
  have hj0:j=0:=by
   match j,hj,hj2 with
   | 0,_,_=>rfl
   | i+1,h,h2=>rw[qaX (by omega)] at h;cases h
  subst hj0
  have e:vs++ziV (wyV 0)=vs:=by show vs++[]=vs;rw[List.append_nil]
  rw[e]
  exact qmV (h0:=df (by omega))
 | succ d ih=>
  intro j hj hj2 vs n hn
  obtain⟨i,rfl⟩:∃ i,j=i+1:=by
   match j,hj with
   | 0,h=>cases h
   | i+1,_=>exact⟨i,rfl⟩
  rw[qaX (by omega),List.length_cons] at hj
  have hl:=qdv (i/2)
  have r:=ih (i/2) (by omega) (by omega) (vs++[iV ((i/2:Nat):Int)]) (n+1) (by omega)
  rw[show n+1+d=n+(d+1) by omega,List.append_assoc] at r
  rw[qg7 (by omega)]
  exact qk0 (x:=(i:Int)) (y:=((i/2:Nat):Int)) (h0:=dt (by omega)) (h1:=by rw[qbo (by omega) (by omega)];congr 1;omega) (nz:=by decide) (hq:=by
   rw[show Int.tdiv (i:Int) 2=((i/2:Nat):Int) from rfl]
   exact qbo (by omega) (by omega)) (hn:=by omega) r
theorem qsQ {b:Br} (V:VB b) {z:Int} (hz:0≤z∧z<b.p.length):Fn 53 2 [brS 0 1 b,.pv (iV z)] [(0,0,zrI b.p),(1,0,zrI b.w)] (.ls 2 (wyV (b.w.length+z.toNat)).length) 1 [(2,0,zrI (wyV (b.w.length+z.toNat)))]:=by
 have hw:=V.w
 have hn:=V.n2
 have hwl:=qdv (b.w.length+z.toNat)
 have r:=qno _ (b.w.length+z.toNat) rfl (by omega) [] 0 (by omega)
 rw[Nat.zero_add,List.nil_append] at r
 have e:(wyV (b.w.length+z.toNat)).length=(wy (b.w.length+z.toNat)).length:=by unfold wyV;rw[List.length_map]
 unfold zrI
 rw[e]
 exact qkU (z:=((b.w.length+z.toNat:Nat):Int)) (hs:=by rw[qbo (by omega) (by omega)];congr 1;omega) (r0:=r)
section
variable {s:List Pt} {tn td:Int} (htn:I64 tn) (htd:I64 td)
include htn htd in
theorem qkW (hs:Val s) {x y:Int} (hx:InF s x) (hy:InF s y):Fn 74 1 [qaD 0 s,.pv (qad tn td),.pv (iV x),.pv (iV y)] [(0,0,qai s)] (.pv (iV (won s tn td x y))) 0 []:=by
 rcases hx with rfl | ⟨p,hp,ex⟩
 ·have e:won s tn td (-1) y=y:=by unfold won;rw[if_pos (by omega)]
  rw[e]
  exact qrH (hx:=dt (by omega))
 ·have p0:=qco hs hp
  rcases hy with rfl | ⟨q,hq,ey⟩
  ·have e:won s tn td x (-1)=x:=by unfold won;rw[if_neg (by omega),if_pos (Or.inl (by omega))]
   rw[e]
   exact qsf (hx:=df (by omega)) (hy:=dt (by omega))
  ·have q0:=qco hs hq
   rw[qp6 hs hp hq ex ey]
   obtain⟨i,hi,hip⟩:=List.getElem_of_mem hp
   obtain⟨k,hk,hkq⟩:=List.getElem_of_mem hq
   have hi':s[i]?=some p:=by rw[List.getElem?_eq_getElem hi,hip]
   have hk':s[k]?=some q:=by rw[List.getElem?_eq_getElem hk,hkq]
   have hl:Pure Try.prog 85 #[ptV p,ptV q,qad tn td] (.bool (ld tn td p q)):=qkg htn htd (hs.ok p hp) (hs.ok q hq)
   cases h:ld tn td p q
   ·rw[if_neg (by decide)]
    rw[h] at hl
    exact qsh (hx:=df (by omega)) (hy:=df (by omega)) (hp:=hi') (hip:=qao hi) (a1:=qeR hs hi' ex) (hq:=hk') (hiq:=qao hk) (a2:=qeR hs hk' ey) (hl:=hl)
   ·rw[if_pos rfl]
    rw[h] at hl
    exact qrc (hx:=df (by omega)) (hy:=df (by omega)) (hp:=hi') (hip:=qao hi) (a1:=qeR hs hi' ex) (hq:=hk') (hiq:=qao hk) (a2:=qeR hs hk' ey) (hl:=hl)
theorem qh6 (hs:Val s) (i:Int):∃ u,Fn 58 1 [qaD 0 s,.pv (iV i)] [(0,0,qai s)] (.pv (iV u)) 0 []∧((u<0∧¬ ∃ q∈s,q.id=i)∨(0≤u∧∃ q∈s,q.id=i)):=by
 by_cases h:∃ q∈s,q.id=i
 ·obtain⟨q,hq,he⟩:=h
  obtain⟨k,hk,hkq⟩:=List.getElem_of_mem hq
  exact⟨k,qeR hs (k:=k) (p:=q) (by rw[List.getElem?_eq_getElem hk,hkq]) he,Or.inr ⟨by omega,q,hq,he⟩⟩
 ·exact⟨-1,qq9 hs.len (fun p hp e=>h ⟨p,hp,e⟩),Or.inl ⟨by omega,h⟩⟩
theorem qhu (hs:Val s) {l:List Int} {n:Nat} (hl:l.length=n) (hn:n≤1000000):Fn 30 2 [qaD 0 s,.ls 1 n] [(0,0,qai s),(1,0,.row 3 1 n (ziV l))] (.pv (.bool (pB (KnB s l)))) 0 []:=by
 subst hl
 have step:∀ k,(∀ j,j<k→∀ x,l[j]?=some x→x≠-1→∃ q∈s,q.id=x)→∀ {e:Exit} {tm2:TmL} {hp2:HpL},k≤l.length→
  Rl 2 2 30 0 26 3 [(1,.ls 1 l.length),(2,.pp 2 0),(5,.pv (iV (k:Int)))] [(2,0,.ls 0 s.length),(0,0,qai s),(1,0,zrI l)] e tm2 hp2→
  Rl 2 2 30 0 26 3 [(1,.ls 1 l.length),(2,.pp 2 0),(5,.pv (iV ((0:Nat):Int)))] [(2,0,.ls 0 s.length),(0,0,qai s),(1,0,zrI l)] e tm2 hp2:=by
  intro k hk e tm2 hp2 hkl r
  refine RunsL.rounds (fun j=>[(1,.ls 1 l.length),(2,.pp 2 0),(5,.pv (iV (j:Int)))]) (fun _=>[(2,0,.ls 0 s.length),(0,0,qai s),(1,0,zrI l)]) (N:=k) k 0 (Nat.zero_add _) (fun j _ hj r=>?_) r
  obtain⟨x,hx⟩:=qap (l:=l) (k:=j) (by omega)
  by_cases h0:x = -1
  ·exact qlH (hk:=hx) (hin:=qao (qas hx)) (hlt:=dt (by omega)) (hx:=by simp[h0]) (hs:=qal (by omega)) r
  ·obtain⟨u,a1,a2⟩:=qh6 hs x
   rcases a2 with ⟨_,a2⟩ | ⟨a2,_⟩
   ·exact (a2 (hk j hj x hx h0)).elim
   ·exact qlB (hk:=hx) (hin:=qao (qas hx)) (hlt:=dt (by omega)) (hx:=by simpa using h0) (ha:=a1) (hv:=df (by omega)) (hs:=qal (by omega)) r
 rcases qaI (fun j=>∀ x,l[j]?=some x→x≠-1→∃ q∈s,q.id=x) l.length with h | ⟨j,hj,hb,hf⟩
 ·rw[qgx (p:=KnB s l) fun x hx=>by
   obtain⟨k,hk,rfl⟩:=List.getElem_of_mem hx
   exact h k hk _ (List.getElem?_eq_getElem hk)]
  exact qmU (r0:=step l.length h (Nat.le_refl _) (qn2 (hge:=df (by omega))))
 ·simp only[Classical.not_forall] at hb
  obtain⟨x,hx,h0,hno⟩:=hb
  rw[qfU (p:=KnB s l) fun h=>hno (h x (List.mem_of_getElem? hx) h0)]
  obtain⟨u,a1,a2⟩:=qh6 hs x
  rcases a2 with ⟨a2,_⟩ | ⟨_,a2⟩
  ·exact qpF (r0:=step j hf (by omega) (qk3 (hk:=hx) (hin:=qao hj) (hlt:=dt (by omega)) (hx:=by simpa using h0) (ha:=a1) (hv:=dt a2)))
  ·exact (hno a2).elim
theorem qlO {l:List Int} {n:Nat} (hl:l.length=n) (hn:n≤1000000):Fn 31 1 [.ls 0 n] [(0,0,.row 3 1 n (ziV l))] (.pv (.bool (pB (¬ OneB l)))) 0 []:=by
 subst hl
 exact qdR hn
variable {b:Br} {z x:Int}
end
end Go.Proofs.Ytgbmdijodlfcaaa

namespace Go.Proofs.Ytgbmdijodlfcaaa
set_option maxRecDepth 100000
open Go.RowKit
abbrev pdT (g:List Int) (n k:Nat):List (Nat×SV):=[(5,.pp 3 0),(6,.pp 4 0),(7,.pp 5 0),(10,.pp 6 0),(12,.pp 11 0),(13,.ls 13 n),(14,.ls 12 g.length),(15,.pv (iV (k:Int)))]
abbrev pdH (b:Br) (s:List Pt) (tn td:Int) (l g m:List Int) (n:Nat) (vs:List Value):List (Nat×Nat×SV):=[(3,0,.ls 0 b.p.length),(3,1,.ls 1 b.w.length),(4,0,.ls 2 s.length),(5,0,.pv (iV tn)),(5,1,.pv (iV td)),(6,0,.pv (.slice none 0 0)),(6,1,.pv (.slice none 0 0)),(11,0,.ls 8 b.p.length),(11,1,.ls 10 b.w.length),
 (0,0,zrI b.p),(1,0,zrI b.w),(2,0,qai s),(8,0,.row 3 1 b.p.length (ziV l)),(10,0,.row 3 1 b.w.length (ziV m)),(12,0,zrI g),(13,0,.row 3 1 n vs)]
section
variable {s:List Pt} {tn td:Int} (htn:I64 tn) (htd:I64 td)
include htn htd in
theorem qhn (hs:Val s) {b:Br} (hw:b.w.length+1=b.p.length) (hn:b.p.length≤64) {l:List Int} (hl:l.length=b.p.length) {J:Nat}:∀ (d q k:Nat) (m c:List Int),(wy q).length=d→q≤126→q≤2*b.w.length→wy q=(wy J).drop k→InX s ⟨l,m⟩ q→m.length=b.w.length→(∀ i∈wy q,m[i]?=b.w[i]?)→c.length≤k→k+d=(wyV J).length→k≤6→
 Rl 3 3 55 0 78 14 (pdT (wyV J) c.length k) (pdH b s tn td l (wyV J) m c.length (ziV c)) (.exit 0) [(10,.pp 6 0),(12,.pp 11 0),(13,.ls 13 (rpF s tn td (wy q) (⟨l,m⟩,c)).2.length)]
  (pdH b s tn td l (wyV J) (rpF s tn td (wy q) (⟨l,m⟩,c)).1.w (rpF s tn td (wy q) (⟨l,m⟩,c)).2.length (ziV (rpF s tn td (wy q) (⟨l,m⟩,c)).2)):=by
 intro d
 induction d with
 | zero=>
  intro q k m c hd hq hq2 hJ hX hm hold hc hk hk6
  have e:wy q=[]:=List.length_eq_zero_iff.1 hd
  have er:rpF s tn td (wy q) (⟨l,m⟩,c)=(⟨l,m⟩,c):=by rw[e];rfl
  rw[er]
  exact qnw (hge:=df (by omega))
 | succ d ih=>
  intro q k m c hd hq hq2 hJ hX hm hold hc hk hk6
  obtain⟨i,rfl⟩:∃ i,q=i+1:=by
   match q,hd with
   | 0,h=>cases h
   | i+1,_=>exact⟨i,rfl⟩
  have hwy:=qaX (i:=i) (by omega)
  have hkk:(wyV J)[k]?=some ((i/2:Nat):Int):=by
   have e0:(wy (i+1))[0]?=some (i/2):=by rw[hwy];rfl
   rw[hJ,List.getElem?_drop] at e0
   unfold wyV
   rw[List.getElem?_map,show k=k+0 by omega,e0]
   rfl
  have hil:i/2<m.length:=by omega
  obtain⟨in1,in2⟩:=hX.kids (b:=⟨l,m⟩) (by omega) hil
  have hXn:InX s ⟨l,m.set (i/2) (won s tn td ((⟨l,m⟩:Br).nd (2*(i/2)+1)) ((⟨l,m⟩:Br).nd (2*(i/2)+2)))⟩ (i/2):=hX.next (b:=⟨l,m⟩) (by omega) hil
  have hnx:wy (i/2)=(wy J).drop (k+1):=by
   have e1:(wy (i+1)).drop 1=((wy J).drop k).drop 1:=by rw[hJ]
   rw[hwy,List.drop_drop] at e1
   simpa using e1
  have hold':∀ n∈wy (i/2),(m.set (i/2) (won s tn td ((⟨l,m⟩:Br).nd (2*(i/2)+1)) ((⟨l,m⟩:Br).nd (2*(i/2)+2))))[n]?=b.w[n]?:=fun n hn'=>by
   have h1:=qpK (i/2) (by omega) n hn'
   rw[List.getElem?_set_ne (by omega)]
   exact hold n (by rw[hwy];exact List.mem_cons_of_mem _ hn')
  have hol:=hold (i/2) (by rw[hwy];exact List.mem_cons_self)
  have hon:=qbN (b:=⟨l,m⟩) hil
  have hbw:b.w[i/2]?=some ((⟨l,m⟩:Br).nd (i/2)):=hol.symm.trans hon
  have hd':(wy (i/2)).length=d:=by rw[hwy,List.length_cons] at hd;omega
  have hF:rpF s tn td (wy (i+1)) (⟨l,m⟩,c)=rpF s tn td (wy (i/2)) (rpS s tn td (⟨l,m⟩,c) (i/2)):=by rw[hwy];rfl
  have hkl:=qas hkk
  have set':(m.set (i/2) (won s tn td ((⟨l,m⟩:Br).nd (2*(i/2)+1)) ((⟨l,m⟩:Br).nd (2*(i/2)+2))))[i/2]?=some (won s tn td ((⟨l,m⟩:Br).nd (2*(i/2)+1)) ((⟨l,m⟩:Br).nd (2*(i/2)+2))):=by
   rw[List.getElem?_set,if_pos rfl,if_pos hil]
  have nx:=qdb (b:=⟨l,m⟩) hm hl hw (by omega) (i:=2*(i/2)+1) (z:=2*((i/2:Nat):Int)+1) (by omega) (by omega)
  have ny:=qdb (b:=⟨l,m⟩) hm hl hw (by omega) (i:=2*(i/2)+2) (z:=2*((i/2:Nat):Int)+2) (by omega) (by omega)
  have nw:=qkW htn htd hs in1 in2
  by_cases hv:won s tn td ((⟨l,m⟩:Br).nd (2*(i/2)+1)) ((⟨l,m⟩:Br).nd (2*(i/2)+2))=(⟨l,m⟩:Br).nd (i/2)
  ·have r:=ih (i/2) (k+1) _ c hd' (by omega) (by omega) hnx hXn (by rw[List.length_set];exact hm) hold' (by omega) (by omega) (by have:=qdv J;unfold wyV at hkl;rw[List.length_map] at hkl;omega)
   have er:rpS s tn td (⟨l,m⟩,c) (i/2)=(⟨l,m.set (i/2) (won s tn td ((⟨l,m⟩:Br).nd (2*(i/2)+1)) ((⟨l,m⟩:Br).nd (2*(i/2)+2)))⟩,c):=by unfold rpS;simp only;rw[if_pos hv]
   rw[hF,er]
   exact qk6 (z:=((i/2:Nat):Int)) (hlt:=dt (by omega)) (hk:=hkk) (hin:=qao hkl) (hm:=qbo (by omega) (by omega)) (ha:=qbo (by omega) (by omega)) (hx:=nx) (hb:=qbo (by omega) (by omega)) (hy:=ny) (hw:=nw) (hix:=⟨by omega,by omega⟩) (hg:=hil) (hv:=set') (hu:=hbw) (hne:=by simp[hv]) (hs:=qal (by omega)) r
  ·have r:=ih (i/2) (k+1) _ (c++[((i/2:Nat):Int)]) hd' (by omega) (by omega) hnx hXn (by rw[List.length_set];exact hm) hold' (by rw[List.length_append];show c.length+1≤k+1;omega) (by omega) (by have:=qdv J;unfold wyV at hkl;rw[List.length_map] at hkl;omega)
   rw[List.length_append,qd7] at r
   rw[hF,qe3 hv]
   exact qiC (z:=((i/2:Nat):Int)) (hlt:=dt (by omega)) (hk:=hkk) (hin:=qao hkl) (hm:=qbo (by omega) (by omega)) (ha:=qbo (by omega) (by omega)) (hx:=nx) (hb:=qbo (by omega) (by omega)) (hy:=ny) (hw:=nw) (hix:=⟨by omega,by omega⟩) (hg:=hil) (hv:=set') (hu:=hbw) (hne:=by simpa using hv) (hno:=by omega) (hs:=qal (by omega)) r
variable {b:Br} {z x:Int}
include htn htd in
theorem qna (V:VB b) (hs:Val s) (hz:0≤z∧z<b.p.length) (hk:KnB s (b.p.set z.toNat x)):Fn 55 3 [brS 0 1 b,qaD 2 s,.pv (qad tn td),.pv (iV z),.pv (iV x)] [(0,0,zrI b.p),(1,0,zrI b.w),(2,0,qai s)]
 (.tu [.ag [.ls 3 b.p.length,.ls 4 b.w.length],.one (.ls 5 (rpF s tn td (wy (b.w.length+z.toNat)) (⟨b.p.set z.toNat x,b.w⟩,[])).2.length)]) 3 [(3,0,.row 3 1 b.p.length (ziV (b.p.set z.toNat x))),(4,0,.row 3 1 b.w.length (ziV (rpF s tn td (wy (b.w.length+z.toNat)) (⟨b.p.set z.toNat x,b.w⟩,[])).1.w)),
  (5,0,.row 3 1 (rpF s tn td (wy (b.w.length+z.toNat)) (⟨b.p.set z.toNat x,b.w⟩,[])).2.length (ziV (rpF s tn td (wy (b.w.length+z.toNat)) (⟨b.p.set z.toNat x,b.w⟩,[])).2))]:=by
 have hw:=V.w
 have hn:=V.n2
 have hzl:z.toNat<b.p.length:=by omega
 have r:=qhn htn htd hs hw hn (l:=b.p.set z.toNat x) List.length_set (J:=b.w.length+z.toNat) _ (b.w.length+z.toNat) 0 b.w [] rfl (by omega) (by omega) rfl (InX.put V hzl hk) rfl (fun _ _=>rfl) (Nat.le_refl _) (by unfold wyV;rw[List.length_map];omega) (by omega)
 exact qkL (l:=b.p.set z.toNat x) (n1:=by omega) (n2:=by omega) (hix:=⟨by omega,by omega⟩) (hs9:=qli b.p z.toNat x hzl) (hi9:=qcA b.p z.toNat hzl) (hy:=qsQ V hz) (r0:=r)
include htn htd in
theorem qsH (h1:b.p.length≤70) (h2:b.w.length≤70):qe4 28 s tn td b z x:=by
 have c1:=qq1 h1 h2
 unfold qfZ at c1
 have c2:=qjo htn htd s
 unfold qe4
 by_cases V:VB b
 ·rw[qgq V] at c1
  by_cases ht:tE s tn td=0
  ·obtain⟨hs,hok⟩:=qfT ht
   rw[ht] at c2
   by_cases hz:0≤z∧z<b.p.length
   ·have hzl:z.toNat<b.p.length:=by omega
    have hset:(b.p.set z.toNat x).length=0+b.p.length:=by rw[List.length_set];omega
    have p1:decide (z<0)=false:=df (by omega)
    have p2:decide (z≥(b.p.length:Int))=false:=df (by omega)
    have q1:0+b.p.length≤1000000:=by omega
    have q2:0≤z∧z<((0+b.p.length:Nat):Int):=⟨by omega,by omega⟩
    have q3:=qli b.p z.toNat x hzl
    have q4:=qcA b.p z.toNat hzl
    have c3:=qhu hs hset (by omega)
    have c4:=qlO hset (by omega)
    have e:=qlU (x:=x) V ht hz
    by_cases hk:KnB s (b.p.set z.toNat x)
    ·rw[qgx hk] at c3
     by_cases ho:OneB (b.p.set z.toNat x)
     ·rw[qfU fun k=>k ho] at c4
      have e0:seE b s tn td z x=0:=by rw[e];unfold idE;rw[if_pos hk,if_pos ho]
      have er:seR s tn td b z x=rpF s tn td (wy (b.w.length+z.toNat)) (⟨b.p.set z.toNat x,b.w⟩,[]):=by unfold seR;rw[if_pos e0]
      rw[er,e0]
      have hl:(rpF s tn td (wy (b.w.length+z.toNat)) (⟨b.p.set z.toNat x,b.w⟩,[])).1.w.length=b.w.length:=by rw[qd4];exact (qd9 _ _).1
      have hp:(rpF s tn td (wy (b.w.length+z.toNat)) (⟨b.p.set z.toNat x,b.w⟩,[])).1.p=b.p.set z.toNat x:=by rw[qd4];exact (qd9 _ _).2
      have:=qo8 (hc:=c1) (ht:=c2) (h1:=p1) (h3:=p2) (n1:=q1) (hix:=q2) (hs9:=q3) (hi9:=q4) (hkn:=c3) (h2:=c4) (hp:=qna htn htd V hs hz hk)
      unfold qoL zrI
      rw[hl,hp,List.length_set]
      exact this
     ·rw[qgx ho] at c4
      have e0:seE b s tn td z x=14:=by rw[e];unfold idE;rw[if_pos hk,if_neg ho]
      rw[qex e0 (by decide),e0]
      exact qi8 (qnJ (hc:=c1) (ht:=c2) (h1:=p1) (h3:=p2) (n1:=q1) (hix:=q2) (hs9:=q3) (hi9:=q4) (hkn:=c3) (h2:=c4))
    ·rw[qfU hk] at c3
     have e0:seE b s tn td z x=6:=by rw[e];unfold idE;rw[if_neg hk]
     rw[qex e0 (by decide),e0]
     exact qi8 (qpW (hc:=c1) (ht:=c2) (h1:=p1) (h3:=p2) (n1:=q1) (hix:=q2) (hs9:=q3) (hi9:=q4) (hkn:=c3))
   ·rw[qex (qeV V ht hz) (by decide),qeV V ht hz]
    by_cases h0:z<0
    ·exact qi8 (qqm (hc:=c1) (ht:=c2) (h1:=dt h0))
    ·exact qi8 (qpL (hc:=c1) (ht:=c2) (h1:=df h0) (h3:=dt (by omega)))
  ·rw[qex (qeX V ht) ht,qeX V ht]
   exact qi8 (qlm (hc:=c1) (ht:=c2) (he:=by simpa using ht))
 ·rw[qa8 V] at c1
  rw[qex (qfa V) (by decide),qfa V]
  exact qi8 (qnT (hc:=c1))
end
end Go.Proofs.Ytgbmdijodlfcaaa

namespace Go.Proofs.Ytgbmdijodlfcaaa
set_option maxRecDepth 100000
open Go.ChangeShapes Go.WideShapes Go.ChangeAt Go.RowKit Go.Joins Go.Deep
theorem qll:Try.prog.cellsOf 27=2:=by kernel_rfl
theorem qob:Try.prog.readableRec 27=true:=by kernel_rfl
theorem qoC:27<Try.prog.types.size:=of_decide_eq_true (by kernel_rfl)
section
variable {H:Type} {enc:TypeId×Value→H} {W:World} {base:Nat} {spare:Nat→Bool} {held:Bool}
theorem qfp {r:Reach} {b0:Nat} {v:Value} {d:DataW H} {p:List MemPlace} (hv:Value.okWide Try.prog W r b0 27 v) (h:DataW.Trod enc Try.prog W base spare held 27 v d p) :
 ∃ (b:Br) (u0 u1:Value),v=.agg #[u0,u1]∧Rd W 1 u0 b.p.length (ziV b.p)∧Rd W 1 u1 b.w.length (ziV b.w):=by
 obtain⟨cs,rfl,hsz⟩:=okWide_struct Try.underlying27 hv
 obtain⟨fuel,hf⟩:=h
 obtain⟨y0,y1,n,_,hlen,h0,h1⟩:=trod_struct2 Try.underlying27 hf
 obtain⟨u0,l0,hc0,r0,_⟩:=qd0 h0
 obtain⟨u1,l1,hc1,r1,_⟩:=qd0 h1
 refine⟨⟨l0,l1⟩,u0,u1,?_,r0,r1⟩
 rw[qrL] at hc0 hc1
 have hs:cs.size=2:=hsz.trans qll
 obtain⟨L⟩:=cs
 match L,hs with
 | [c0,c1],_=>
  simp[Value.cells] at hc0 hc1
  rw[hc0,hc1]
end
section
variable {W:World} {f:FuncId} {s:List Pt} {l:List Int} {b:Br} {u u0 u1 v:Value} {vs:List Value} {t:Value}
theorem qrC (h:Fn f 3 (brS 0 1 b::qaD 2 s::vs.map .pv) [(0,0,zrI b.p),(1,0,zrI b.w),(2,0,qai s)] (.pv (.bool true)) 0 [])
 (h0:Rd W 1 u0 b.p.length (ziV b.p)) (h1:Rd W 1 u1 b.w.length (ziV b.w)) (hs:Rd W 3 u s.length (qaN s)) :
 Calls Try.prog f (.agg #[u0,u1]::.agg #[u]::vs).toArray W fun e W'=>e=.returned (.bool true)∧Gr W W':=
 qkD (rs:=[(3,1,b.p.length,ziV b.p),(3,1,b.w.length,ziV b.w),(68,3,s.length,qaN s)]) (us:=[u0,u1,u]) h
  (.cons h0 (qfn b.p) (.cons h1 (qfn b.w) (.cons hs (qfK s) .nil))) ⟨⟨[u0,u1],⟨⟨rfl,h0.zsl⟩,⟨rfl,h1.zsl⟩,tI⟩,rfl⟩,⟨[u],⟨⟨rfl,hs.zsl⟩,tI⟩,rfl⟩,SV.isl_v vs⟩
end
end Go.Proofs.Ytgbmdijodlfcaaa

namespace Go.Proofs.Ytgbmdijodlfcaaa
set_option maxRecDepth 100000
open Go.RowKit
abbrev qsL (m:List Int) (e1:Int) (k:Nat):List (Nat×SV):=[(11,.pp 8 0),(18,.pv (iV (k:Int))),(12,.pp 12 0),(13,.ls 11 m.length),(14,.pv (iV e1)),(15,.pp 16 0),(16,.ls 15 m.length),(17,.pv (iV e1))]
abbrev qsN (b o:Br) (m l:List Int):List (Nat×Nat×SV):=[(8,0,.ls 6 b.p.length),(8,1,.ls 7 b.w.length),(6,0,.row 3 1 b.p.length (ziV l)),(7,0,.row 3 1 b.w.length (ziV b.w)),(12,0,.ls 9 o.p.length),(12,1,.ls 10 o.w.length),(16,0,.ls 13 o.p.length),(16,1,.ls 14 o.w.length),(9,0,zrI o.p),(10,0,zrI o.w),(11,0,zrI m),(13,0,zrI o.p),(14,0,zrI o.w),(15,0,zrI m)]
abbrev qsO (m:List Int) (e1:Int) (k:Nat):List (Nat×SV):=[(11,.pp 8 0),(19,.pv (iV (k:Int))),(12,.pp 12 0),(13,.ls 11 m.length),(14,.pv (iV e1)),(15,.pp 16 0),(16,.ls 15 m.length),(17,.pv (iV e1))]
abbrev qsP (b o:Br) (m g l:List Int):List (Nat×Nat×SV):=[(8,0,.ls 6 b.p.length),(8,1,.ls 7 b.w.length),(6,0,.row 3 1 b.p.length (ziV g)),(7,0,.row 3 1 b.w.length (ziV l)),(12,0,.ls 9 o.p.length),(12,1,.ls 10 o.w.length),(16,0,.ls 13 o.p.length),(16,1,.ls 14 o.w.length),(9,0,zrI o.p),(10,0,zrI o.w),(11,0,zrI m),(13,0,zrI o.p),(14,0,zrI o.w),(15,0,zrI m)]
theorem qjR {b:Br} {s:List Pt} {tn td pz id:Int} (hg:Fn 19 1 [qaD 0 s] [(0,0,qai s)] (.pv (.bool true)) 0 []) :
 Fn 5 3 [brS 0 1 b,qaD 2 s,.pv (qad tn td),.pv (iV (pz)),.pv (iV (id))] [(0,0,zrI b.p),(1,0,zrI b.w),(2,0,qai s)] (.pv (.bool true)) 0 []:=
 Fz [] [Cf hg [2]]
  tI (Co hg [2] 6 tI)
theorem qmT {b:Br} {s:List Pt} {tn td pz id:Int} (hg:Fn 19 1 [qaD 0 s] [(0,0,qai s)] (.pv (.bool false)) 0 []) (hg2:Fn 20 2 [brS 0 1 b] [(0,0,zrI b.p),(1,0,zrI b.w)] (.pv (.bool true)) 0 []) :
 Fn 5 3 [brS 0 1 b,qaD 2 s,.pv (qad tn td),.pv (iV (pz)),.pv (iV (id))] [(0,0,zrI b.p),(1,0,zrI b.w),(2,0,qai s)] (.pv (.bool true)) 0 []:=
 Fz [] [Cf hg [2],Cf hg2 [0,1]]
  tI (Co hg [2] 6 (Co hg2 [0,1] 6 tI))
abbrev qsl (e1:Int) (k:Nat) (m:List Int):TmL:=[(11,.pp 8 0),(18,.pv (iV (k:Int))),(12,.pp 12 0),(13,.ls 11 m.length),(14,.pv (iV e1)),(15,.pp 16 0),(16,.ls 15 m.length),(17,.pv (iV e1))]
theorem qrp {b o:Br} {l m:List Int} {k:Nat} {x y e1:Int} (hlt:decide ((k:Int)<(b.p.length:Int))=true) (hin:0≤(k:Int)∧(k:Int)<(b.p.length:Int)) (hk:l[k]?=some x) (hgl:((k:Nat):Int).toNat<l.length) (ha:iV (IntKind.i64.wrap (x+1))=iV (y)) (hs:iV (IntKind.i64.wrap ((k:Int)+1))=iV (((k+1:Nat):Int))) {e:Exit} {tm2:TmL} {hp2:HpL}
 (r:Rl 3 3 5 0 93 17 ([(11,.pp 8 0),(18,.pv (iV ((k+1:Nat):Int))),(12,.pp 12 0),(13,.ls 11 m.length),(14,.pv (iV e1)),(15,.pp 16 0),(16,.ls 15 m.length),(17,.pv (iV e1))]) ([(8,0,.ls 6 b.p.length),(8,1,.ls 7 b.w.length),(6,0,.row 3 1 b.p.length (ziV (l.set k y))),(7,0,.row 3 1 b.w.length (ziV b.w)),(12,0,.ls 9 o.p.length),(12,1,.ls 10 o.w.length),(16,0,.ls 13 o.p.length),(16,1,.ls 14 o.w.length),(9,0,zrI o.p),(10,0,zrI o.w),(11,0,zrI m),(13,0,zrI o.p),(14,0,zrI o.w),(15,0,zrI m)]) e tm2 hp2):Rl 3 3 5 0 93 17 (qsl e1 k m) ([(8,0,.ls 6 b.p.length),(8,1,.ls 7 b.w.length),(6,0,.row 3 1 b.p.length (ziV l)),(7,0,.row 3 1 b.w.length (ziV b.w)),(12,0,.ls 9 o.p.length),(12,1,.ls 10 o.w.length),(16,0,.ls 13 o.p.length),(16,1,.ls 14 o.w.length),(9,0,zrI o.p),(10,0,zrI o.w),(11,0,zrI m),(13,0,zrI o.p),(14,0,zrI o.w),(15,0,zrI m)]) e tm2 hp2:=
 RunsL.next [] 300 [.t true,.r (iV x),Re ha,.w (ziV (l.set k y)),Re hs]
  (Ro (Ai hlt (Ai hin (Ai (qaZ hk) (Ai ha (Ai hin (Ai (qli l ((k:Nat):Int).toNat y hgl) (Ai (qcA l ((k:Nat):Int).toNat hgl) (Ai hs tI))))))))) r
abbrev qsp (e1:Int) (m:List Int):TmL:=[(11,.pp 8 0),(12,.pp 12 0),(13,.ls 11 m.length),(14,.pv (iV e1)),(15,.pp 16 0),(16,.ls 15 m.length),(17,.pv (iV e1))]
theorem qkT {b o:Br} {l m:List Int} {k:Nat} {e1:Int} (hlt:decide ((k:Int)<(b.p.length:Int))=false):Rl 3 3 5 0 93 17 (qsl e1 k m) ([(8,0,.ls 6 b.p.length),(8,1,.ls 7 b.w.length),(6,0,.row 3 1 b.p.length (ziV l)),(7,0,.row 3 1 b.w.length (ziV b.w)),(12,0,.ls 9 o.p.length),(12,1,.ls 10 o.w.length),(16,0,.ls 13 o.p.length),(16,1,.ls 14 o.w.length),(9,0,zrI o.p),(10,0,zrI o.w),(11,0,zrI m),(13,0,zrI o.p),(14,0,zrI o.w),(15,0,zrI m)]) (.exit 0) (qsp e1 m) ([(8,0,.ls 6 b.p.length),(8,1,.ls 7 b.w.length),(6,0,.row 3 1 b.p.length (ziV l)),(7,0,.row 3 1 b.w.length (ziV b.w)),(12,0,.ls 9 o.p.length),(12,1,.ls 10 o.w.length),(16,0,.ls 13 o.p.length),(16,1,.ls 14 o.w.length),(9,0,zrI o.p),(10,0,zrI o.w),(11,0,zrI m),(13,0,zrI o.p),(14,0,zrI o.w),(15,0,zrI m)]):=
 RunsL.stop [] 300 [.t false] (fun h=>by cases h)
  (Ro (Ai hlt tI))
abbrev qsy (e1:Int) (k:Nat) (m:List Int):TmL:=[(11,.pp 8 0),(19,.pv (iV (k:Int))),(12,.pp 12 0),(13,.ls 11 m.length),(14,.pv (iV e1)),(15,.pp 16 0),(16,.ls 15 m.length),(17,.pv (iV e1))]
theorem qq3 {b o:Br} {l m g:List Int} {k:Nat} {x y e1:Int} (hlt:decide ((k:Int)<(b.w.length:Int))=true) (hin:0≤(k:Int)∧(k:Int)<(b.w.length:Int)) (hk:l[k]?=some x) (hgl:((k:Nat):Int).toNat<l.length) (ha:iV (IntKind.i64.wrap (x+1))=iV (y)) (hs:iV (IntKind.i64.wrap ((k:Int)+1))=iV (((k+1:Nat):Int))) {e:Exit} {tm2:TmL} {hp2:HpL}
 (r:Rl 3 3 5 1 93 17 ([(11,.pp 8 0),(19,.pv (iV ((k+1:Nat):Int))),(12,.pp 12 0),(13,.ls 11 m.length),(14,.pv (iV e1)),(15,.pp 16 0),(16,.ls 15 m.length),(17,.pv (iV e1))]) ([(8,0,.ls 6 b.p.length),(8,1,.ls 7 b.w.length),(6,0,.row 3 1 b.p.length (ziV g)),(7,0,.row 3 1 b.w.length (ziV (l.set k y))),(12,0,.ls 9 o.p.length),(12,1,.ls 10 o.w.length),(16,0,.ls 13 o.p.length),(16,1,.ls 14 o.w.length),(9,0,zrI o.p),(10,0,zrI o.w),(11,0,zrI m),(13,0,zrI o.p),(14,0,zrI o.w),(15,0,zrI m)]) e tm2 hp2):Rl 3 3 5 1 93 17 (qsy e1 k m) ([(8,0,.ls 6 b.p.length),(8,1,.ls 7 b.w.length),(6,0,.row 3 1 b.p.length (ziV g)),(7,0,.row 3 1 b.w.length (ziV l)),(12,0,.ls 9 o.p.length),(12,1,.ls 10 o.w.length),(16,0,.ls 13 o.p.length),(16,1,.ls 14 o.w.length),(9,0,zrI o.p),(10,0,zrI o.w),(11,0,zrI m),(13,0,zrI o.p),(14,0,zrI o.w),(15,0,zrI m)]) e tm2 hp2:=
 RunsL.next [] 300 [.t true,.r (iV x),Re ha,.w (ziV (l.set k y)),Re hs]
  (Ro (Ai hlt (Ai hin (Ai (qaZ hk) (Ai ha (Ai hin (Ai (qli l ((k:Nat):Int).toNat y hgl) (Ai (qcA l ((k:Nat):Int).toNat hgl) (Ai hs tI))))))))) r
theorem qkG {b o:Br} {l m g:List Int} {k:Nat} {e1:Int} (hlt:decide ((k:Int)<(b.w.length:Int))=false):Rl 3 3 5 1 93 17 (qsy e1 k m) ([(8,0,.ls 6 b.p.length),(8,1,.ls 7 b.w.length),(6,0,.row 3 1 b.p.length (ziV g)),(7,0,.row 3 1 b.w.length (ziV l)),(12,0,.ls 9 o.p.length),(12,1,.ls 10 o.w.length),(16,0,.ls 13 o.p.length),(16,1,.ls 14 o.w.length),(9,0,zrI o.p),(10,0,zrI o.w),(11,0,zrI m),(13,0,zrI o.p),(14,0,zrI o.w),(15,0,zrI m)]) (.exit 2) ([(12,.pp 12 0),(13,.ls 11 m.length),(14,.pv (iV e1)),(15,.pp 16 0),(16,.ls 15 m.length),(17,.pv (iV e1))]) ([(12,0,.ls 9 o.p.length),(12,1,.ls 10 o.w.length),(16,0,.ls 13 o.p.length),(16,1,.ls 14 o.w.length),(9,0,zrI o.p),(10,0,zrI o.w),(11,0,zrI m),(13,0,zrI o.p),(14,0,zrI o.w),(15,0,zrI m)]):=
 RunsL.stop [] 300 [.t false] (fun h=>by cases h)
  (Ro (Ai hlt tI))
theorem qlG {b o:Br} {m g:List Int} {s:List Pt} {tn td e1 pz id:Int} (hg:Fn 19 1 [qaD 0 s] [(0,0,qai s)] (.pv (.bool false)) 0 []) (hg2:Fn 20 2 [brS 0 1 b] [(0,0,zrI b.p),(1,0,zrI b.w)] (.pv (.bool false)) 0 []) (htw:Fn 21 2 [brS 0 1 b] [(0,0,zrI b.p),(1,0,zrI b.w)] (brS 2 3 b) 2 [(2,0,zrI b.p),(3,0,zrI b.w)]) (h1:Fn 14 3 [brS 0 1 b,qaD 2 s,.pv (qad tn td),.pv (iV (pz)),.pv (iV (id))] [(0,0,zrI b.p),(1,0,zrI b.w),(2,0,qai s)] (.tu [qoL 3 4 o,.one (.ls 5 m.length),.one (.pv (iV e1))]) 3 [(3,0,zrI o.p),(4,0,zrI o.w),(5,0,zrI m)]) (h2:Fn 28 3 [brS 0 1 b,qaD 2 s,.pv (qad tn td),.pv (iV (pz)),.pv (iV (id))] [(0,0,zrI b.p),(1,0,zrI b.w),(2,0,qai s)] (.tu [qoL 3 4 o,.one (.ls 5 m.length),.one (.pv (iV e1))]) 3 [(3,0,zrI o.p),(4,0,zrI o.w),(5,0,zrI m)]) (hs1:Fn 17 4 [brS 0 1 b,brS 2 3 b] [(0,0,zrI b.p),(1,0,zrI b.w),(2,0,zrI b.p),(3,0,zrI b.w)] (.pv (.bool true)) 0 []) (r0:Rl 3 3 5 0 93 17 ([(11,.pp 8 0),(18,.pv (iV ((0:Nat):Int))),(12,.pp 12 0),(13,.ls 11 m.length),(14,.pv (iV e1)),(15,.pp 16 0),(16,.ls 15 m.length),(17,.pv (iV e1))]) ([(8,0,.ls 6 b.p.length),(8,1,.ls 7 b.w.length),(6,0,.row 3 1 b.p.length (ziV b.p)),(7,0,.row 3 1 b.w.length (ziV b.w)),(12,0,.ls 9 o.p.length),(12,1,.ls 10 o.w.length),(16,0,.ls 13 o.p.length),(16,1,.ls 14 o.w.length),(9,0,zrI o.p),(10,0,zrI o.w),(11,0,zrI m),(13,0,zrI o.p),(14,0,zrI o.w),(15,0,zrI m)]) (.exit 0) (qsp e1 m) ([(8,0,.ls 6 b.p.length),(8,1,.ls 7 b.w.length),(6,0,.row 3 1 b.p.length (ziV g)),(7,0,.row 3 1 b.w.length (ziV b.w)),(12,0,.ls 9 o.p.length),(12,1,.ls 10 o.w.length),(16,0,.ls 13 o.p.length),(16,1,.ls 14 o.w.length),(9,0,zrI o.p),(10,0,zrI o.w),(11,0,zrI m),(13,0,zrI o.p),(14,0,zrI o.w),(15,0,zrI m)])) (r1:Rl 3 3 5 1 93 17 ([(11,.pp 8 0),(19,.pv (iV ((0:Nat):Int))),(12,.pp 12 0),(13,.ls 11 m.length),(14,.pv (iV e1)),(15,.pp 16 0),(16,.ls 15 m.length),(17,.pv (iV e1))]) ([(8,0,.ls 6 b.p.length),(8,1,.ls 7 b.w.length),(6,0,.row 3 1 b.p.length (ziV g)),(7,0,.row 3 1 b.w.length (ziV b.w)),(12,0,.ls 9 o.p.length),(12,1,.ls 10 o.w.length),(16,0,.ls 13 o.p.length),(16,1,.ls 14 o.w.length),(9,0,zrI o.p),(10,0,zrI o.w),(11,0,zrI m),(13,0,zrI o.p),(14,0,zrI o.w),(15,0,zrI m)]) (.exit 2) ([(12,.pp 12 0),(13,.ls 11 m.length),(14,.pv (iV e1)),(15,.pp 16 0),(16,.ls 15 m.length),(17,.pv (iV e1))]) ([(12,0,.ls 9 o.p.length),(12,1,.ls 10 o.w.length),(16,0,.ls 13 o.p.length),(16,1,.ls 14 o.w.length),(9,0,zrI o.p),(10,0,zrI o.w),(11,0,zrI m),(13,0,zrI o.p),(14,0,zrI o.w),(15,0,zrI m)])) (hs2:Fn 17 4 [brS 0 1 o,brS 2 3 o] [(0,0,zrI o.p),(1,0,zrI o.w),(2,0,zrI o.p),(3,0,zrI o.w)] (.pv (.bool true)) 0 []) (hs3:Fn 27 2 [.ls 0 m.length,.ls 1 m.length] [(0,0,zrI m),(1,0,zrI m)] (.pv (.bool true)) 0 []) :
 Fn 5 3 [brS 0 1 b,qaD 2 s,.pv (qad tn td),.pv (iV (pz)),.pv (iV (id))] [(0,0,zrI b.p),(1,0,zrI b.w),(2,0,qai s)] (.pv (.bool true)) 0 []:=
 qcK 600 [] [Cf hg [2],Cf hg2 [0,1],Cf htw [0,1],Cf h1 [6,7,2],Cf h1 [0,1,2],Cf hs1 [6,7,0,1],.k,Lf r0,Lf r1,Cf hs2 [9,10,13,14],Cf hs3 [11,15],.t true]
  tI (Co hg [2] 6 (Co hg2 [0,1] 6 (Co htw [0,1] 6 (Co h1 [6,7,2] 9 (Co h2 [0,1,2] 13 (Co hs1 [6,7,0,1] 17 (Lo r0 [] (Lo r1 [] (Co hs2 [9,10,13,14] 17 (Co hs3 [11,15] 17 (Ai (qmS e1) tI))))))))))) (by kernel_rfl)
end Go.Proofs.Ytgbmdijodlfcaaa
