/-
  Joined: Qc, Qd. Conditions: none.
-/
import Derived.Test.YtgbmdijodlfcaaaW27
import Derived.Test.YtgbmdijodlfcaaaW26
import Derived.Test.YtgbmdijodlfcaaaW25
import Derived.Test.YtgbmdijodlfcaaaW21
namespace Go.Proofs.Ytgbmdijodlfcaaa
set_option maxRecDepth 100000
open Go.RowKit
noncomputable def pB (p:Prop):Bool:=open Classical in decide p
open Classical in
theorem qhy {p:Prop} (h:p):pB p=true:=by unfold pB;exact decide_eq_true h
open Classical in
theorem qgX {p:Prop} (h:¬ p):pB p=false:=by unfold pB;exact decide_eq_false h
theorem qeT (a:Int):MapK Try.prog 118 3 4 (iV a) (fun x=>∃ b,x=iV b) (.bool false):=
 qjU (by kernel_rfl) Try.underlying3 (fun w=>qda (by kernel_rfl) w) a
theorem qkL (m:List Int):∀ p∈qnJ m,∃ b,p.1=iV b:=fun p hp=>by
 obtain⟨q,_,rfl⟩:=List.mem_map.1 hp
 exact⟨q,rfl⟩
theorem qlq {m:List Int} {x:Int} (h:x∉m):qaQ Try.prog 118 (qdf m) (.int .i64 x) false (.bool false):=
 qif (qeT x) (qkL m) (fun q hq e=>by
  obtain⟨r,hr,rfl⟩:=List.mem_map.1 hq
  exact h (qdG e▸hr)) false
theorem ql3 {m:List Int} {x:Int} (h:x∈m):qaQ Try.prog 118 (qdf m) (iV x) false (.bool true):=
 qhf (v:=.bool true) (qeT x) (qkL m) (List.mem_map.2 ⟨x,h,rfl⟩) (fun r hr _=>by
  obtain⟨s,_,rfl⟩:=List.mem_map.1 hr
  rfl) false
theorem qeV {m:List Int} {x:Int} (h:x∉m):qdT Try.prog 118 (qdf m) (.int .i64 x) (.bool true) (qdf (m++[x])):=by
 have:=qjE (qeT x) (qkL m) (fun q hq e=>by
  obtain⟨r,hr,rfl⟩:=List.mem_map.1 hq
  exact h (qdG e▸hr)) (.bool true)
 show qdT _ _ _ _ _ (kvL (qnJ (m++[x])))
 rw[show qnJ (m++[x])=qnJ m++[(.int .i64 x,.bool true)] by simp[qnJ]]
 exact this
theorem qlr {q:IntKind} {a:Int}:∀ (l:List MapEntry) (i:Nat),(∀ x∈l,∃ b,x.key=.int q b)→(∃ x∈l,x.key=.int q a)→∃ j e,l[j]?=some e∧e.key=.int q a∧Instr.findNow (.int q) (.int q a) l i=some (some (i+j,e.val))
 | [],_,_,h=>by obtain⟨x,hx,_⟩:=h;cases hx
 | x::r,i,h,hex=>by
  obtain⟨b,hb⟩:=h x (by simp)
  by_cases hab:a=b
  ·subst hab
   exact⟨0,x,rfl,hb,by simp[Instr.findNow,hb,Instr.sameNow]⟩
  ·have hf:(a==b)=false:=by simpa using hab
   obtain⟨y,hy,hya⟩:=hex
   have hyr:y∈r:=by
    rcases List.mem_cons.1 hy with rfl | hy
    ·rw[hb] at hya;injection hya with _ e;exact (hab e.symm).elim
    ·exact hy
   obtain⟨j,e,h1,h2,h3⟩:=qlr (q:=q) (a:=a) r (i+1) (fun y hy=>h y (by simp[hy])) ⟨y,hyr,hya⟩
   exact⟨j+1,e,by simpa using h1,h2,by simp[Instr.findNow,hb,Instr.sameNow,hf,h3];omega⟩
theorem qin {m:List Int} {x:Int} (h:x∈m):qdT Try.prog 118 (qdf m) (iV x) (.bool true) (qdf m):=by
 intro w r ⟨en,clock,hb,hx⟩
 have M:=qeT x
 have hin:=qdl (K:=fun x=>∃ b,x=iV b) hx (qkL m)
 obtain⟨y,hy,hyk⟩:=qlQ hx (p:=(iV x,.bool true)) (List.mem_map.2 ⟨x,h,rfl⟩)
 obtain⟨j,e,h1,h2,h3⟩:=qlr (q:=.i64) (a:=x) en.toList 0 (fun z hz=>(hin z hz).1) ⟨y,hy,hyk⟩
 have hv:e.val=.bool true:=by
  obtain⟨z,_,hz⟩:=List.mem_map.1 (hin e (List.mem_of_getElem? h1)).2
  injection hz with _ hz
  exact hz.symm
 have hf:(Instr.findKey 3 (iV x) en.toList).run Try.prog w=.ok (some (0+j,e.val)) w:=MapKept.run_findKey Try.underlying3 h3
 rw[Nat.zero_add] at hf
 have hj:en[j]?=some e:=by rw[← Array.getElem?_toList];exact h1
 have hm:en.modify j (fun e=>{ e with key:=iV x,val:=.bool true })=en:=by
  apply Array.ext (by simp)
  intro i hi hi'
  rw[Array.getElem_modify]
  split
  ·rename_i e1
   subst e1
   have:en[j]=e:=by
    have:=Array.getElem?_eq_getElem hi'
    rw[hj] at this
    exact (Option.some.inj this).symm
   have e3:∀ k v,e.key=k→e.val=v→({ e with key:=k,val:=v })=e:=fun k v a c=>by rw[← a,← c]
   rw[this]
   exact e3 _ _ h2 hv
  ·rfl
 have hs:(Instr.keyThatStays (iV x) (iV x)).run Try.prog w=.ok (iV x) w:=by
  simp[Instr.keyThatStays,Instr.sameBits]
 refine⟨en,clock,?_,hx⟩
 simp[Instr.mapUpdate,run_underlying M.ty,MapKept.run_getObj_map hb,M.ck,hf,hj,h2,hs,hm,MapKept.run_setObj_map _ hb,Result.andThen]
def OneN (l:List Int):Prop:=∀ (i k:Nat) (x:Int),l[i]?=some x→l[k]?=some x→x≠-1→i=k
theorem OneN.b {l:List Int} (h:OneN l):OneB l:=fun i k x hi hk h0=>h i k x hi hk (by omega)
theorem OneB.n {l:List Int} (h:OneB l) (hr:∀ x∈l,-1≤x):OneN l:=fun i k x hi hk h0=>h i k x hi hk (by have:=hr x (List.mem_of_getElem? hi);omega)
theorem qgw {l:List Int} (hn:l.length≤1000000):∀ (d k:Nat) (m:List Int),k+d=l.length→(∀ x,x∈m↔x∈l.take k)→(∀ (i j:Nat) (x:Int),i<k→j<k→l[i]?=some x→l[j]?=some x→x≠-1→i=j)→
 (OneN l∧RunsL Try.prog 1 1 (qgZ Try.prog 66 0) 25 2 [(3,.mp 1),(9,.ls 0 l.length),(10,.pv (.int .i64 (l.length:Int))),(11,.pv (.int .i64 (k:Int)))] [(1,0,.mrow (qdf m)),(0,0,zrI l)] (.exit 0) [] [])∨
 (¬ OneN l∧RunsL Try.prog 1 1 (qgZ Try.prog 66 0) 25 2 [(3,.mp 1),(9,.ls 0 l.length),(10,.pv (.int .i64 (l.length:Int))),(11,.pv (.int .i64 (k:Int)))] [(1,0,.mrow (qdf m)),(0,0,zrI l)] .ret [(2,.pv (.bool true))] [])
 | 0,k,m,hd,_,h1=>Or.inl ⟨fun i j x hi hj h0=>h1 i j x (by have:=qaC hi;omega) (by have:=qaC hj;omega) hi hj h0,qmh (hge:=df (by omega))⟩
 | d+1,k,m,hd,hm,h1=>by
  obtain⟨x,hx⟩:=qaA (l:=l) (k:=k) (by omega)
  have hk:=qaC hx
  have hs:=qdF hx
  have up:(x≠-1→x∉m)→(∀ (i j:Nat) (y:Int),i<k+1→j<k+1→l[i]?=some y→l[j]?=some y→y≠-1→i=j):=fun hno i j y hi hj e1 e2 h0=>by
   rcases Nat.lt_or_ge i k with a | a<;>rcases Nat.lt_or_ge j k with c | c
   ·exact h1 i j y a c e1 e2 h0
   ·have:j=k:=by omega
    subst this
    rw[hx] at e2;cases e2
    exact (hno h0 ((hm x).2 (List.mem_of_getElem? (i:=i) (by rw[List.getElem?_take,if_pos a];exact e1)))).elim
   ·have:i=k:=by omega
    subst this
    rw[hx] at e1;cases e1
    exact (hno h0 ((hm x).2 (List.mem_of_getElem? (i:=j) (by rw[List.getElem?_take,if_pos c];exact e2)))).elim
   ·omega
  by_cases hin:x∈m
  ·by_cases h0:x = -1
   ·have ih:=qgw hn d (k+1) m (by omega) (fun y=>by rw[hs,List.mem_append,← hm y,List.mem_singleton];exact⟨Or.inl,fun h=>h.elim id fun h=>h▸hin⟩) (up fun h=>(h h0).elim)
    exact ih.imp (fun ⟨a,r⟩=>⟨a,qde (hk:=hx) (hin:=qaM hk) (hlt:=dt (by omega)) (hx:=by simp[h0]) (hP:=qin hin) (hs:=qaz (by omega)) r⟩) (fun ⟨a,r⟩=>⟨a,qde (hk:=hx) (hin:=qaM hk) (hlt:=dt (by omega)) (hx:=by simp[h0]) (hP:=qin hin) (hs:=qaz (by omega)) r⟩)
   ·refine Or.inr ⟨fun H=>?_,qmb (hk:=hx) (hin:=qaM hk) (hlt:=dt (by omega)) (hx:=by simpa using h0) (hL:=ql3 hin)⟩
    obtain⟨i,hi⟩:=List.getElem?_of_mem ((hm x).1 hin)
    have hl:=qaC hi
    rw[List.length_take] at hl
    rw[List.getElem?_take,if_pos (by omega)] at hi
    have:=H i k x hi hx h0
    omega
  ·have ih:=qgw hn d (k+1) (m++[x]) (by omega) (fun y=>by rw[hs,List.mem_append,List.mem_append,hm y]) (up fun _=>hin)
   by_cases h0:x = -1
   ·exact ih.imp (fun ⟨a,r⟩=>⟨a,qde (hk:=hx) (hin:=qaM hk) (hlt:=dt (by omega)) (hx:=by simp[h0]) (hP:=qeV hin) (hs:=qaz (by omega)) r⟩) (fun ⟨a,r⟩=>⟨a,qde (hk:=hx) (hin:=qaM hk) (hlt:=dt (by omega)) (hx:=by simp[h0]) (hP:=qeV hin) (hs:=qaz (by omega)) r⟩)
   ·exact ih.imp (fun ⟨a,r⟩=>⟨a,qgT (hk:=hx) (hin:=qaM hk) (hlt:=dt (by omega)) (hx:=by simpa using h0) (hL:=qlq hin) (hP:=qeV hin) (hs:=qaz (by omega)) r⟩) (fun ⟨a,r⟩=>⟨a,qgT (hk:=hx) (hin:=qaM hk) (hlt:=dt (by omega)) (hx:=by simpa using h0) (hL:=qlq hin) (hP:=qeV hin) (hs:=qaz (by omega)) r⟩)
theorem qjw {l:List Int} (hn:l.length≤1000000):Fn 66 1 [.ls 0 l.length] [(0,0,zrI l)] (.pv (.bool (pB (¬ OneN l)))) 0 []:=by
 rcases qgw hn l.length 0 [] (by omega) (by simp) (fun i j x hi=>by omega) with ⟨h,r⟩ | ⟨h,r⟩
 ·rw[qgX (fun k=>k h)];exact qov (r0:=r)
 ·rw[qhy h];exact qm0 (r0:=r)
theorem qlA {s:List Pt} (hs:Val s):Fn 38 1 [qaF 0 s] [(0,0,qaq s)] (.mp 1) 1 [(1,0,.mrow (byV s))]:=by
 have hlen:=hs.len
 refine qkw (s:=s) ?_
 have:=RunsL.rounds (P:=Try.prog) (lo:=1) (fr:=1) (c:=qgZ Try.prog 38 0) (n:=23) (nb:=3) (fun k=>[(3,.mp 2),(11,.ls 0 s.length),(12,.pv (iV (s.length:Int))),(13,.pv (iV (k:Int)))]) (fun k=>[(2,0,.mrow (byV (s.take k))),(0,0,qaq s)])
  (e:=.exit 0) (tm2:=[(3,.mp 2)]) (hp2:=[(2,0,.mrow (byV s)),(0,0,qaq s)]) s.length 0 (Nat.zero_add _) (fun k _ hk r=>?_) (by rw[List.take_length];exact qmj (hge:=df (by omega)))
 ·simpa using this
 ·obtain⟨p,hp⟩:=qaA hk
  rw[qdF hp] at r
  exact qk0 (hk:=hp) (hin:=qaM hk) (hlt:=dt (by omega)) (hP:=qoi fun q hq=>by
   obtain⟨i,hi,hq'⟩:=qkU hq
   have:=hs.up.mono hi hq' hp
   omega) (hs:=qaz (by omega)) r
theorem qdN {s:List Pt} (hs:Val s) {q:Pt} (hq:q∈s):0≤q.id∧q.id≤65535:=by
 have:=qbZ.1 (hs.ok q hq)
 omega
theorem qkY {s:List Pt} (hs:Val s) {l:List Int} (hn:l.length≤1000000):Fn 65 2 [.mp 1,.ls 0 l.length] [(0,0,zrI l),(1,0,.mrow (byV s))] (.pv (.bool (pB (KnB s l)))) 0 []:=by
 have step:∀ k,(∀ j,j<k→∀ x,l[j]?=some x→x≠-1→∃ q∈s,q.id=x)→∀ {e:Exit} {tm2:TmL} {hp2:HpL},k≤l.length→
  Rl 3 3 84 0 19 3 [(0,.ls 0 l.length),(1,.pc 80 [.pp 2 0]),(7,.pv (iV (l.length:Int))),(8,.pv (iV (k:Int)))] [(0,0,zrI l),(1,0,.mrow (byV s)),(2,0,.mp 1)] e tm2 hp2→
  Rl 3 3 84 0 19 3 [(0,.ls 0 l.length),(1,.pc 80 [.pp 2 0]),(7,.pv (iV (l.length:Int))),(8,.pv (iV ((0:Nat):Int)))] [(0,0,zrI l),(1,0,.mrow (byV s)),(2,0,.mp 1)] e tm2 hp2:=by
  intro k hk e tm2 hp2 hkl r
  refine RunsL.rounds (fun j=>[(0,.ls 0 l.length),(1,.pc 80 [.pp 2 0]),(7,.pv (iV (l.length:Int))),(8,.pv (iV (j:Int)))]) (fun _=>[(0,0,zrI l),(1,0,.mrow (byV s)),(2,0,.mp 1)]) (N:=k) k 0 (Nat.zero_add _) (fun j _ hj r=>?_) r
  obtain⟨x,hx⟩:=qaA (l:=l) (k:=j) (by omega)
  by_cases h0:x = -1
  ·exact qkC (hk:=hx) (hin:=qaM (qaC hx)) (hlt:=dt (by have:=qaC hx;omega)) (hA:=qlI fun ⟨q,hq,e⟩=>by have:=(qdN hs hq).1;omega) (hx:=by simp[h0]) (hs:=qaz (by omega)) r
  ·obtain⟨q,hq,hqx⟩:=hk j hj x hx h0
   exact qia (hk:=hx) (hin:=qaM (qaC hx)) (hlt:=dt (by have:=qaC hx;omega)) (hA:=qjB hs hq hqx true) (hx:=by simpa using h0) (hs:=qaz (by omega)) r
 rcases qa2 (fun j=>∀ x,l[j]?=some x→x≠-1→∃ q∈s,q.id=x) l.length with h | ⟨j,hj,hb,hf⟩
 ·rw[qhy (p:=KnB s l) fun x hx=>by
   obtain⟨k,hk,rfl⟩:=List.getElem_of_mem hx
   exact h k hk _ (List.getElem?_eq_getElem hk)]
  exact qm3 (ht:=qn0 (hi:=qo0 (r0:=step l.length h (Nat.le_refl _) (qmy (hge:=df (by omega))))))
 ·simp only[Classical.not_forall] at hb
  obtain⟨x,hx,h0,hno⟩:=hb
  rw[qgX (p:=KnB s l) fun h=>hno (h x (List.mem_of_getElem? hx) h0)]
  exact qph (ht:=qmn (k:=j) (hi:=qmZ (r0:=step j hf (by omega) (qkM (hk:=hx) (hin:=qaM hj) (hlt:=dt (by omega)) (hA:=qlI hno) (hx:=by simpa using h0)))) (h0:=dt (by omega)))
noncomputable def idE (s:List Pt) (l:List Int):Int:=open Classical in if KnB s l then (if OneB l then 0 else 14) else 6
theorem qpS {s:List Pt} (hs:Val s) {l:List Int} (h:KnB s l):∀ x∈l,-1≤x:=fun x hx=>(qlN hs h x hx).1
theorem qdA {s:List Pt} (hs:Val s) {l:List Int} {n:Nat} (hl:l.length=n) (hn:n≤1000000):Fn 39 2 [.mp 1,.ls 0 n] [(0,0,.row 3 1 n (ziV l)),(1,0,.mrow (byV s))] (.pv (iV (idE s l))) 0 []:=by
 subst hl
 have h1:=qkY hs hn
 have h2:=qjw hn
 unfold idE
 by_cases hk:KnB s l
 ·rw[qhy hk] at h1
  rw[if_pos hk]
  by_cases ho:OneB l
  ·rw[qgX (fun k=>k (ho.n (qpS hs hk)))] at h2
   rw[if_pos ho]
   exact qo2 (h1:=h1) (h2:=h2)
  ·rw[qhy (fun k=>ho k.b)] at h2
   rw[if_neg ho]
   exact qnv (h1:=h1) (h2:=h2)
 ·rw[qgX hk] at h1
  rw[if_neg hk]
  exact qoW (h1:=h1)
theorem qk6 {l:List Int} (hn:l.length≤1000000):Fn 49 1 [.ls 0 l.length] [(0,0,zrI l)] (.pv (.bool (pB ((∀ x∈l,-1≤x∧x≤65535)∧OneB l)))) 0 []:=by
 have step:∀ k,(∀ j,j<k→∀ x,l[j]?=some x→-1≤x∧x≤65535)→∀ {e:Exit} {tm2:TmL} {hp2:HpL},k≤l.length→
  Rl 1 1 84 0 19 1 [(0,.ls 0 l.length),(1,.pv (.func (.func 72) #[] #[])),(7,.pv (iV (l.length:Int))),(8,.pv (iV (k:Int)))] [(0,0,zrI l)] e tm2 hp2→
  Rl 1 1 84 0 19 1 [(0,.ls 0 l.length),(1,.pv (.func (.func 72) #[] #[])),(7,.pv (iV (l.length:Int))),(8,.pv (iV ((0:Nat):Int)))] [(0,0,zrI l)] e tm2 hp2:=by
  intro k hk e tm2 hp2 hkl r
  refine RunsL.rounds (fun j=>[(0,.ls 0 l.length),(1,.pv (.func (.func 72) #[] #[])),(7,.pv (iV (l.length:Int))),(8,.pv (iV (j:Int)))]) (fun _=>[(0,0,zrI l)]) (N:=k) k 0 (Nat.zero_add _) (fun j _ hj r=>?_) r
  obtain⟨x,hx⟩:=qaA (l:=l) (k:=j) (by omega)
  obtain⟨h1,h2⟩:=hk j hj x hx
  exact qkO (hk:=hx) (hin:=qaM (qaC hx)) (hlt:=dt (by have:=qaC hx;omega)) (hlo:=df (by omega)) (hhi:=df (by omega)) (hs:=qaz (by omega)) r
 rcases qa2 (fun j=>∀ x,l[j]?=some x→-1≤x∧x≤65535) l.length with h | ⟨j,hj,hb,hf⟩
 ·have hr:∀ x∈l,-1≤x∧x≤65535:=fun x hx=>by
   obtain⟨k,hk,rfl⟩:=List.getElem_of_mem hx
   exact h k hk _ (List.getElem?_eq_getElem hk)
  have hc:=qo4 (hi:=qn7 (r0:=step l.length h (Nat.le_refl _) (ql8 (hge:=df (by omega)))))
  have h2:=qjw hn
  by_cases ho:OneB l
  ·rw[qgX (fun k=>k (ho.n fun x hx=>(hr x hx).1))] at h2
   rw[qhy ⟨hr,ho⟩]
   exact qoK (h1:=hc) (h2:=h2)
  ·rw[qhy (fun k=>ho k.b)] at h2
   rw[qgX fun k=>ho k.2]
   exact qmz (h1:=hc) (h2:=h2)
 ·simp only[Classical.not_forall] at hb
  obtain⟨x,hx,hno⟩:=hb
  rw[qgX fun h=>hno (h.1 x (List.mem_of_getElem? hx))]
  refine qpl (h1:=qmt (k:=j) (hi:=qmr (r0:=step j hf (by omega) ?_)) (h0:=dt (by omega)))
  by_cases h1:x < -1
  ·exact qop (hk:=hx) (hin:=qaM hj) (hlt:=dt (by omega)) (hlo:=dt h1)
  ·exact qo5 (hk:=hx) (hin:=qaM hj) (hlt:=dt (by omega)) (hlo:=df h1) (hhi:=dt (by omega))
end Go.Proofs.Ytgbmdijodlfcaaa

namespace Go.Proofs.Ytgbmdijodlfcaaa
set_option maxRecDepth 100000
open Go.RowKit
theorem qdH {b:Br} {i:Nat} (h:i<b.w.length):b.w[i]?=some (b.nd i):=by rw[qc5 h];exact getD_some h
theorem qkZ {b:Br} {i:Nat} (h1:b.w.length≤i) (h2:i-b.w.length<b.p.length):b.p[i-b.w.length]?=some (b.nd i):=by rw[qaN h1];exact getD_some h2
theorem qgx {b:Br} {n j:Nat} (hn:b.w.length=n) (hj:b.p.length=j) (hw:n+1=j) (hl:j≤100000) {i:Nat} (hi:i≤2*n) {z:Int} (hz:z=(i:Int)) :
 Fn 43 2 [.ls 0 n,.ls 1 j,.pv (iV z)] [(0,0,.row 3 1 n (ziV b.w)),(1,0,.row 3 1 j (ziV b.p))] (.pv (iV (b.nd i))) 0 []:=by
 by_cases h:i<n
 ·exact qpj (h1:=dt (by omega)) (hin:=⟨by omega,by omega⟩) (hk:=by rw[hz,show (i:Int).toNat=i from rfl];exact qdH (by omega))
 ·exact qmH (y:=((i-n:Nat):Int)) (h1:=df (by omega)) (hs:=by rw[qc8 (by omega) (by omega)];congr 1;omega) (hin:=⟨by omega,by omega⟩) (hk:=by
   have:=qkZ (b:=b) (i:=i) (by omega) (by omega)
   rw[hn] at this;exact this)
theorem qgt {b:Br} {n j:Nat} (hn:b.w.length=n) (hj:b.p.length=j) (hw:n+1=j) (hl:j≤100000) {i:Nat} (hi:i<n) {z:Int} (hz:z=(i:Int)) :
 Fn 67 2 [.ls 0 n,.ls 1 j,.pv (iV z)] [(0,0,.row 3 1 n (ziV b.w)),(1,0,.row 3 1 j (ziV b.p))] (.pv (.tuple #[iV (b.nd (2*i+1)),iV (b.nd (2*i+2))])) 0 []:=
 qch (e:=2*z) (e1:=2*z+1) (e2:=2*z+2) (hm:=qc8 (by omega) (by omega)) (ha:=qc8 (by omega) (by omega)) (hb:=qc8 (by omega) (by omega)) (h1:=qgx hn hj hw hl (i:=2*i+1) (by omega) (by omega)) (h2:=qgx hn hj hw hl (i:=2*i+2) (by omega) (by omega))
def qpJ (b:Br):Prop:=∀ i,i<b.w.length→(b.nd i=b.nd (2*i+1)∨b.nd i=b.nd (2*i+2))∧(b.nd i = -1→b.nd (2*i+1) = -1∧b.nd (2*i+2) = -1)
theorem qkr {b:Br} (hw:b.w.length+1=b.p.length) (hl:b.p.length≤100000):Fn 50 2 [brS 0 1 b] [(0,0,zrI b.p),(1,0,zrI b.w)] (.pv (.bool (pB (qpJ b)))) 0 []:=by
 have hc:∀ j,j<b.w.length→Fn 67 2 [.ls 0 b.w.length,.ls 1 b.p.length,.pv (iV (j:Int))] [(0,0,zrI b.w),(1,0,zrI b.p)] (.pv (.tuple #[iV (b.nd (2*j+1)),iV (b.nd (2*j+2))])) 0 []:=fun j hj=>qgt rfl rfl hw hl hj rfl
 have step:∀ k,(∀ j,j<k→(b.nd j=b.nd (2*j+1)∨b.nd j=b.nd (2*j+2))∧(b.nd j = -1→b.nd (2*j+1) = -1∧b.nd (2*j+2) = -1))→∀ {e:Exit} {tm2:TmL} {hp2:HpL},k≤b.w.length→
  Rl 2 2 50 0 42 3 [(1,.pp 2 0),(8,.ls 1 b.w.length),(9,.pv (iV (b.w.length:Int))),(10,.pv (iV (k:Int)))] [(2,0,.ls 0 b.p.length),(2,1,.ls 1 b.w.length),(0,0,zrI b.p),(1,0,zrI b.w)] e tm2 hp2→
  Rl 2 2 50 0 42 3 [(1,.pp 2 0),(8,.ls 1 b.w.length),(9,.pv (iV (b.w.length:Int))),(10,.pv (iV ((0:Nat):Int)))] [(2,0,.ls 0 b.p.length),(2,1,.ls 1 b.w.length),(0,0,zrI b.p),(1,0,zrI b.w)] e tm2 hp2:=by
  intro k hk e tm2 hp2 hkl r
  refine RunsL.rounds (fun j=>[(1,.pp 2 0),(8,.ls 1 b.w.length),(9,.pv (iV (b.w.length:Int))),(10,.pv (iV (j:Int)))]) (fun _=>[(2,0,.ls 0 b.p.length),(2,1,.ls 1 b.w.length),(0,0,zrI b.p),(1,0,zrI b.w)]) (N:=k) k 0 (Nat.zero_add _) (fun j _ hj r=>?_) r
  have hjl:j<b.w.length:=by omega
  have hx:=qdH hjl
  obtain⟨h1,h2⟩:=hk j hj
  by_cases a1:b.nd j=b.nd (2*j+1)
  ·by_cases a3:b.nd j = -1
   ·obtain⟨c1,c2⟩:=h2 a3
    exact qoq (hk:=hx) (hin:=qaM hjl) (hlt:=dt (by omega)) (hc:=hc j hjl) (hx:=by simp[a1]) (hn:=by simp[a3]) (hxy:=by simp[c1,c2]) (hs:=qaz (by omega)) r
   ·exact qpr (hk:=hx) (hin:=qaM hjl) (hlt:=dt (by omega)) (hc:=hc j hjl) (hx:=by simp[a1]) (hn:=by simpa using a3) (hs:=qaz (by omega)) r
  ·have a2:=h1.resolve_left a1
   by_cases a3:b.nd j = -1
   ·obtain⟨c1,_⟩:=h2 a3
    exact (a1 (by omega)).elim
   ·exact qnZ (hk:=hx) (hin:=qaM hjl) (hlt:=dt (by omega)) (hc:=hc j hjl) (hx:=by simpa using a1) (hy:=by simp[a2]) (hn:=by simpa using a3) (hs:=qaz (by omega)) r
 rcases qa2 (fun j=>(b.nd j=b.nd (2*j+1)∨b.nd j=b.nd (2*j+2))∧(b.nd j = -1→b.nd (2*j+1) = -1∧b.nd (2*j+2) = -1)) b.w.length with h | ⟨j,hj,hb,hf⟩
 ·rw[qhy (p:=qpJ b) h]
  exact qmw (r0:=step b.w.length h (Nat.le_refl _) (qng (hge:=df (by omega))))
 ·rw[qgX (p:=qpJ b) fun h=>hb (h j hj)]
  refine qok (r0:=step j hf (by omega) ?_)
  have hx:=qdH hj
  by_cases a1:b.nd j=b.nd (2*j+1)
  ·have a3:b.nd j = -1:=Classical.byContradiction fun a3=>hb ⟨Or.inl a1,fun e=>(a3 e).elim⟩
   have a4:b.nd (2*j+1)≠b.nd (2*j+2):=fun a4=>hb ⟨Or.inl a1,fun e=>⟨by omega,by omega⟩⟩
   exact qoU (hk:=hx) (hin:=qaM hj) (hlt:=dt (by omega)) (hc:=hc j hj) (hx:=by simp[a1]) (hn:=by simp[a3]) (hxy:=by simpa using a4)
  ·by_cases a2:b.nd j=b.nd (2*j+2)
   ·have a3:b.nd j = -1:=Classical.byContradiction fun a3=>hb ⟨Or.inr a2,fun e=>(a3 e).elim⟩
    exact qoI (hk:=hx) (hin:=qaM hj) (hlt:=dt (by omega)) (hc:=hc j hj) (hx:=by simpa using a1) (hy:=by simp[a2]) (hn:=by simp[a3]) (hxy:=by simp;omega)
   ·exact qn3 (hk:=hx) (hin:=qaM hj) (hlt:=dt (by omega)) (hc:=hc j hj) (hx:=by simpa using a1) (hy:=by simpa using a2)
theorem qf5 {l:List Int}:Fn 37 1 [.ls 0 l.length] [(0,0,zrI l)] (.pv (iV (if 1≤l.length∧l.length≤64 then 0 else 2))) 0 []:=by
 by_cases h1:l.length<1
 ·rw[if_neg (by omega)];exact qpm (h1:=dt (by omega))
 ·by_cases h2:l.length>64
  ·rw[if_neg (by omega)];exact qoM (h1:=df (by omega)) (h2:=dt (by omega))
  ·rw[if_pos (by omega)];exact qoA (h1:=df (by omega)) (h2:=df (by omega))
theorem qeN {b:Br} (x:Int):Fn 44 2 [brS 0 1 b,.pv (iV x)] [(0,0,zrI b.p),(1,0,zrI b.w)] (.pv (iV (if 0≤x∧x<b.p.length then 0 else 2))) 0 []:=by
 by_cases h1:x<0
 ·rw[if_neg (by omega)];exact qoB (h1:=dt (by omega))
 ·by_cases h2:x≥b.p.length
  ·rw[if_neg (by omega)];exact qpb (h1:=df (by omega)) (h2:=dt (by omega))
  ·rw[if_pos (by omega)];exact qoh (h1:=df (by omega)) (h2:=df (by omega))
theorem qdr {b:Br} (h:VB b):erB b=0:=by unfold erB;rw[if_pos h]
theorem qbg {b:Br} (h:¬ VB b):erB b=8:=by unfold erB;rw[if_neg h]
theorem qgl {b:Br} (h1:b.p.length≤70) (h2:b.w.length≤70):Fn 16 2 [brS 0 1 b] [(0,0,zrI b.p),(1,0,zrI b.w)] (.pv (iV (erB b))) 0 []:=by
 have s1:=qf5 (l:=b.p)
 by_cases a1:1≤b.p.length∧b.p.length≤64
 ·rw[if_pos a1] at s1
  have hs:iV (IntKind.i64.wrap ((b.p.length:Int)-1))=iV ((b.p.length:Int)-1):=qc8 (by omega) (by omega)
  by_cases a2:b.w.length+1=b.p.length
  ·have hl:((b.w.length:Int) !=(b.p.length:Int)-1)=false:=by simp;omega
   have s2:=qk6 (l:=b.p) (by omega)
   by_cases a3:(∀ x∈b.p,-1≤x∧x≤65535)∧OneB b.p
   ·rw[qhy a3] at s2
    have s3:=qkr a2 (by omega)
    by_cases a4:qpJ b
    ·rw[qhy a4] at s3
     rw[qdr ⟨a1.1,a1.2,a2,a3.1,a3.2,a4⟩]
     exact qpf (h1:=s1) (hs:=hs) (hl:=hl) (h2:=s2) (h3:=s3)
    ·rw[qgX a4] at s3
     rw[qbg fun V=>a4 V.kid]
     exact qo1 (h1:=s1) (hs:=hs) (hl:=hl) (h2:=s2) (h3:=s3)
   ·rw[qgX a3] at s2
    rw[qbg fun V=>a3 ⟨V.rng,V.one⟩]
    exact qof (h1:=s1) (hs:=hs) (hl:=hl) (h2:=s2)
  ·rw[qbg fun V=>a2 V.w]
   exact qmk (h1:=s1) (hs:=hs) (hl:=by simp;omega)
 ·rw[if_neg a1] at s1
  rw[qbg fun V=>a1 ⟨V.n1,V.n2⟩]
  exact qkv (h1:=s1)
def InF (s:List Pt) (x:Int):Prop:=x = -1∨∃ q∈s,q.id=x
section
variable {s:List Pt} {tn td:Int} (htn:I64 tn) (htd:I64 td) (hs:Val s) (ht:okB tn td=true)
theorem qqV {x y:Int} (hs:Val s) {p q:Pt} (hp:p∈s) (hq:q∈s) (ex:p.id=x) (ey:q.id=y):won s tn td x y=if ld tn td p q=true then x else y:=by
 have h1:=qdN hs hp
 have h2:=qdN hs hq
 have e1:idP s x=p:=by rw[← ex];exact qhe hs hp
 have e2:idP s y=q:=by rw[← ey];exact qhe hs hq
 unfold won
 rw[if_neg (by omega),e1,e2]
 by_cases h:ld tn td p q=true
 ·rw[if_pos (Or.inr h),if_pos h]
 ·rw[if_neg (fun k=>k.elim (fun k=>by omega) h),if_neg h]
theorem qlX {x y:Int} (hx:InF s x) (hy:InF s y):InF s (won s tn td x y):=by
 rcases qiq (s:=s) (tn:=tn) (td:=td) x y with e | e<;>rw[e]<;>assumption
include htn htd hs ht in
theorem qjS {x y:Int} (hx:InF s x) (hy:InF s y):Fn 68 3 [.pv (iV x),.pv (iV y),.pp 1 0,.pp 2 0] [(0,0,.mrow (byV s)),(1,0,.mp 0),(2,0,.pv (iV tn)),(2,1,.pv (iV td))] (.pv (iV (won s tn td x y))) 0 []:=by
 rcases hx with rfl | ⟨p,hp,ex⟩
 ·have e:won s tn td (-1) y=y:=by unfold won;rw[if_pos (by omega)]
  rw[e]
  exact qqe (hx:=by simp)
 ·have p0:=qdN hs hp
  have hx':(x==-1)=false:=by simp;omega
  rcases hy with rfl | ⟨q,hq,ey⟩
  ·have e:won s tn td x (-1)=x:=by unfold won;rw[if_neg (by omega),if_pos (Or.inl (by omega))]
   rw[e]
   exact qqc (hx:=hx') (hy:=by simp)
  ·have q0:=qdN hs hq
   have hy':(y==-1)=false:=by simp;omega
   rw[qqV hs hp hq ex ey]
   have l1:=qjB hs hp ex false
   have l2:=qjB hs hq ey false
   by_cases hne:p.id=q.id
   ·have hpq:p=q:=qjJ hs hp hq hne
    have hf:ld tn td p q=false:=by
     subst hpq
     unfold ld
     rw[qcr]
     omega
    rw[if_neg (by rw[hf];decide)]
    have c1:=qbc (hs.ok p hp)
    have c2:=qbc (hs.ok q hq)
    exact qp5 (hx:=hx') (hy:=hy') (hp:=l1) (hq:=l2) (ha:=qmX (e4:=2) (h1:=c1) (h2:=c2) (h3:=qeL htn htd ht) (h4:=qlk (h:=by simpa using hne)) (he:=by decide))
   ·have ha:=qln htn htd (hs.ok p hp) (hs.ok q hq) ht hne
    cases h:ld tn td p q
    ·rw[if_neg (by decide)]
     rw[show qcf _ _ _ _ _ _=ld tn td p q from rfl,h] at ha
     exact qqU (hx:=hx') (hy:=hy') (hp:=l1) (hq:=l2) (ha:=ha)
    ·rw[if_pos rfl]
     rw[show qcf _ _ _ _ _ _=ld tn td p q from rfl,h] at ha
     exact qpU (hx:=hx') (hy:=hy') (hp:=l1) (hq:=l2) (ha:=ha)
theorem qn8 {p:List Int} (h:KnB s p) {x:Int} (hx:x∈p):InF s x:=by
 by_cases h0:x = -1
 ·exact Or.inl h0
 ·exact Or.inr (h x hx h0)
structure Mk (s:List Pt) (tn td:Int) (p m:List Int) (k:Nat):Prop where
 len:m.length+1=p.length
 rt:∀ i,k≤i→i<m.length→(⟨p,m⟩:Br).nd i=won s tn td ((⟨p,m⟩:Br).nd (2*i+1)) ((⟨p,m⟩:Br).nd (2*i+2))
 inf:∀ i,k≤i→i≤2*m.length→InF s ((⟨p,m⟩:Br).nd i)
theorem Mk.zero {p:List Int} {n:Nat} (hn:n+1=p.length) (hk:KnB s p):Mk s tn td p (List.replicate n 0) n:=by
 have hl:(List.replicate n (0:Int)).length=n:=List.length_replicate
 refine⟨by omega,fun i h1 h2=>by omega,fun i h1 h2=>?_⟩
 rw[qaN (b:=⟨p,List.replicate n 0⟩) (by show (List.replicate n (0:Int)).length≤i;omega)]
 exact qn8 hk (List.mem_of_getElem? (getD_some (by show i-(List.replicate n (0:Int)).length<p.length;omega)))
theorem Mk.next {p m:List Int} {k:Nat} (M:Mk s tn td p m (k+1)) (hk:k<m.length):Mk s tn td p (m.set k (won s tn td ((⟨p,m⟩:Br).nd (2*k+1)) ((⟨p,m⟩:Br).nd (2*k+2)))) k:=by
 have hl:(m.set k (won s tn td ((⟨p,m⟩:Br).nd (2*k+1)) ((⟨p,m⟩:Br).nd (2*k+2)))).length=m.length:=List.length_set
 have ns:∀ i,(⟨p,m.set k (won s tn td ((⟨p,m⟩:Br).nd (2*k+1)) ((⟨p,m⟩:Br).nd (2*k+2)))⟩:Br).nd i=if i=k then won s tn td ((⟨p,m⟩:Br).nd (2*k+1)) ((⟨p,m⟩:Br).nd (2*k+2)) else (⟨p,m⟩:Br).nd i:=fun i=>qls (b:=⟨p,m⟩) hk
 refine⟨by rw[hl];exact M.len,fun i h1 h2=>?_,fun i h1 h2=>?_⟩
 ·rw[hl] at h2
  rw[ns,ns,ns,if_neg (show ¬ 2*i+1=k by omega),if_neg (show ¬ 2*i+2=k by omega)]
  by_cases e:i=k
  ·rw[if_pos e,e]
  ·rw[if_neg e];exact M.rt i (by omega) h2
 ·rw[hl] at h2
  rw[ns]
  by_cases e:i=k
  ·rw[if_pos e];exact qlX (M.inf _ (by omega) (by omega)) (M.inf _ (by omega) (by omega))
  ·rw[if_neg e];exact M.inf i (by omega) h2
theorem Mk.all {p m:List Int} (M:Mk s tn td p m 0) (n1:1≤p.length):m=(bld s tn td p).w:=by
 have:=qjl (s:=s) (tn:=tn) (td:=td) (b:=⟨p,m⟩) (b':=bld s tn td p) (fun i hi=>M.rt i (Nat.zero_le _) hi) (qcG n1) rfl (by rw[qcP];show m.length=_;have:=M.len;omega)
 exact congrArg Br.w this
include htn htd hs ht in
theorem qhh {p:List Int} (hl:p.length≤100000) {n:Nat} (hn:n+1=p.length):∀ (k:Nat) (m:List Int) (z:Int),k≤n→m.length=n→z=(k:Int)-1→Mk s tn td p m k→
 Rl 4 4 41 0 30 5 [(0,.ls 0 p.length),(1,.pc 68 [.pp 2 0,.pp 3 0]),(5,.ls 4 n),(6,.pv (iV z))] [(0,0,zrI p),(1,0,.mrow (byV s)),(2,0,.mp 1),(3,0,.pv (iV tn)),(3,1,.pv (iV td)),(4,0,.row 3 1 n (ziV m))]
  (.exit 0) [(5,.ls 4 n)] [(0,0,zrI p),(1,0,.mrow (byV s)),(2,0,.mp 1),(3,0,.pv (iV tn)),(3,1,.pv (iV td)),(4,0,.row 3 1 n (ziV (bld s tn td p).w))]
 | 0,m,z,_,_,hz,M=>by
  have:=M.all (by omega)
  subst this
  exact qmc (h0:=df (by omega))
 | k+1,m,z,hk,hm,hz,M=>by
  have hzk:z=(k:Int):=by omega
  have ht':z.toNat=k:=by omega
  have r:=qhh hl hn k _ (z-1) (by omega) (by rw[List.length_set];exact hm) (by omega) (M.next (by omega))
  rw[← ht'] at r
  refine qkF (h0:=dt (by omega)) (hc:=?_) (hw:=qjS htn htd hs ht (M.inf (2*k+1) (by omega) (by omega)) (M.inf (2*k+2) (by omega) (by omega))) (hix:=⟨by omega,by omega⟩) (hg:=by omega) (hd:=qc8 (by omega) (by omega)) (by rw[ht'] at r ⊢;exact r)
  exact qgt (b:=⟨p,m⟩) hm rfl hn hl (i:=k) (by omega) hzk
include htn htd hs ht in
theorem qgS {p:List Int} (n1:1≤p.length) (hl:p.length≤100000) (hk:KnB s p):Fn 41 4 [.ls 0 p.length,.pc 68 [.pp 2 0,.pp 3 0]] [(0,0,zrI p),(1,0,.mrow (byV s)),(2,0,.mp 1),(3,0,.pv (iV tn)),(3,1,.pv (iV td))]
 (.ls 4 (p.length-1)) 1 [(4,0,.row 3 1 (p.length-1) (ziV (bld s tn td p).w))]:=
 qkR (z:=((p.length-1:Nat):Int)-1) (hs:=by rw[qc8 (by omega) (by omega)];congr 1;omega) (n0:=by omega) (n1:=by omega) (hd:=qc8 (by omega) (by omega))
  (r0:=qhh htn htd hs ht hl (by omega) (p.length-1) _ _ (Nat.le_refl _) List.length_replicate rfl (Mk.zero (by omega) hk))
end
end Go.Proofs.Ytgbmdijodlfcaaa
