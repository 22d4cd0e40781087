/-
  Joined: Yk, Yl, Ym. Conditions: none.
-/
import Derived.Test.YtkjaanhddkkodaaGreatYj
import Derived.Test.YtkjaanhddkkodaaGreatW18
namespace Go.Proofs.YtkjaanhddkkodaaGreat
set_option maxRecDepth 100000
open Go.RowKit
section
variable {u fr wh:List Int} {b:List Bool} {ev:List Ev}
structure ASm (u:List Int) (b:List Bool) (fr:List Int) (ev:List Ev) (wh:List Int):Prop where
 lu:u.length≤210
 lb:b.length≤210
 lf:fr.length≤210
 le:ev.length≤210
 lw:wh.length≤210
 i:∀ x∈ev,EvI x
theorem VA.sm (h:VA u b fr ev wh):ASm u b fr ev wh:=by
 have:=h.lens
 exact⟨by omega,by omega,by omega,by omega,by omega,fun x hx=>(h.ef.ok x hx).i⟩
theorem qtM (s:ASm u b fr ev wh) (h:¬ VA u b fr ev wh):Fn 115 5 [agA u b fr ev wh] (agP u b fr ev wh) (.pv (iV 8)) 0 []:=qlW (by have:=s.lf;omega) (by have:=s.le;omega) s.i h
theorem qxw {n:Nat} (h1:1≤n) (h2:n≤200):Pure Tryz.prog 146 #[.int .u64 1,.int .u64 (n:Int)] (.tuple #[.int .u64 0,.int .u64 (n:Int)]):=by
 refine qqZ fun w=>(Tryz.bits_Mul64 1 n (by omega) (by omega) w).mono fun e w' ⟨he,hw⟩=>?_
 subst hw
 refine⟨?_,Gr.refl _⟩
 rw[he]
 have e1:1*n/18446744073709551616=0:=by omega
 have e2:1*n%18446744073709551616=n:=by omega
 rw[e1,e2]
 rfl
theorem qmG (z:Int) (k m r:Nat) (hm:m≤r):ziV (List.replicate (k+m) z++List.replicate (r-m) 0)=qdf (ziV (List.replicate k z++List.replicate r 0)) ((0+k)*1) (ziV (List.replicate m z)):=by
 unfold qdf
 rw[Nat.zero_add,Nat.mul_one,qaH,List.length_replicate]
 have e1:(ziV (List.replicate k z++List.replicate r 0)).take k=ziV (List.replicate k z):=by
  rw[qbi,List.take_append_of_le_length (by rw[qaH,List.length_replicate];omega),List.take_of_length_le (by rw[qaH,List.length_replicate];omega)]
 have e2:(ziV (List.replicate k z++List.replicate r 0)).drop (k+m)=ziV (List.replicate (r-m) 0):=by
  rw[qbi,List.drop_append,qaH,List.length_replicate,List.drop_of_length_le (by rw[qaH,List.length_replicate];omega),List.nil_append,show k+m-k=m by omega]
  unfold ziV
  rw[List.map_replicate,List.map_replicate,List.drop_replicate]
 rw[e1,e2,← qbi,← qbi,← List.replicate_append_replicate]
theorem qte {z:Int} {n:Nat} (hn:n≤1000000):∀ (d k:Nat),1≤k→k≤n→n≤k+d→Rl 1 1 99 0 48 2 [(7,.ls 1 n),(8,.pv (iV (k:Int)))] [(1,0,.row 3 1 n (ziV (List.replicate k z++List.replicate (n-k) 0)))] (.exit 0) [(7,.ls 1 n)] [(1,0,.row 3 1 n (ziV (List.replicate n z)))]:=by
 intro d
 induction d with
 | zero=>
  intro k h1 h2 h3
  have:k=n:=by omega
  subst this
  have:=qrX (g:=List.replicate k z++List.replicate (k-k) 0) (k:=k) (n:=k) (decide_eq_false (by omega))
  rwa [show List.replicate k z++List.replicate (k-k) (0:Int)=List.replicate k z by simp] at this ⊢
 | succ d ih=>
  intro k h1 h2 h3
  by_cases hk:k<n
  ·have hmin:Nat.min k (n-k)≤n-k:=Nat.min_le_right _ _
   have hmin2:Nat.min k (n-k)≤k:=Nat.min_le_left _ _
   have hpos:0<Nat.min k (n-k):=Nat.lt_min.2 ⟨by omega,by omega⟩
   generalize hm:Nat.min k (n-k)=m at *
   have r:=ih (k+m) (by omega) (by omega) (by omega)
   have esrc:List.take (m*1) (List.take (k*1) (List.drop (0*1) (ziV (List.replicate k z++List.replicate (n-k) 0))))=ziV (List.replicate m z):=by
    rw[Nat.zero_mul,List.drop_zero,Nat.mul_one,Nat.mul_one,qbi,List.take_append_of_le_length (by rw[qaH,List.length_replicate];omega),List.take_of_length_le (l:=ziV (List.replicate k z)) (by rw[qaH,List.length_replicate];omega)]
    unfold ziV
    rw[List.map_replicate,List.map_replicate,List.take_replicate]
    congr 1
    omega
   rw[show n-(k+m)=n-k-m by omega] at r
   refine qsS (g:=List.replicate k z++List.replicate (n-k) 0) (j:=k+m) (by omega) (by omega) (decide_eq_true (by omega)) ?_ (by rw[hm];exact hpos) ?_ (by rw[hm,show (k:Int)+(m:Int)=((k+m:Nat):Int) by omega];exact qbn (by omega) (by omega)) r
   ·rw[hm,esrc]
    exact qmG z k m (n-k) hmin
   ·rw[hm,esrc,qaH,qaH,List.length_append,List.length_replicate,List.length_replicate,List.length_replicate]
    omega
  ·have:k=n:=by omega
   subst this
   have:=qrX (g:=List.replicate k z++List.replicate (k-k) 0) (k:=k) (n:=k) (decide_eq_false (by omega))
   rwa [show List.replicate k z++List.replicate (k-k) (0:Int)=List.replicate k z by simp] at this ⊢
theorem qlp {z:Int} {n:Nat} (h1:1≤n) (h2:n≤200):Fn 99 1 [.ps 0 0 1 1,.pv (iV (n:Int))] [(0,0,.pv (iV z))] (.ls 1 n) 1 [(1,0,.row 3 1 n (ziV (List.replicate n z)))]:=by
 have hmin:Nat.min 1 n=1:=Nat.min_eq_left h1
 refine qvt (g:=List.replicate 1 z++List.replicate (n-1) 0) (decide_eq_false (by omega)) ?_ (qxw h1 h2) (decide_eq_false (by omega)) (qbn (by omega) (by omega)) (by omega) (by omega) ?_ (by rw[hmin];omega) ?_ (by rw[hmin];rfl) (qte (by omega) n 1 (by omega) (by omega) (by omega))
 ·rw[show IntKind.u64.wrap (n:Int)=n by rw[IntKind.wrap_u64];omega]
 ·rw[hmin,qju,Nat.one_mul]
  have:=qmG z 0 1 n h1
  simpa [ziV] using this
 ·rw[hmin,qju,qaH,List.length_replicate]
  simp
  omega
theorem qus {f:FuncId} {args:List SV} {n0 n1 n2 n3:Nat} {r0 r1 r2 r3:SV} {e0:Value}
 (h:Fn f 0 args [] (.tu [.ag [.ls 0 n0,.ls 1 n1,.ls 2 n2,.pv (.slice none 0 0),.ls 3 n3],.one (.pv e0)]) 4 [(0,0,r0),(1,0,r1),(2,0,r2),(3,0,r3)]) (hr:r0.isRow=true∧r1.isRow=true∧r2.isRow=true∧r3.isRow=true) :
 Fn f 0 args [] (.tu [.ag [.ls 0 n0,.ls 1 n1,.ls 2 n2,.ls 4 0,.ls 3 n3],.one (.pv e0)]) 5 [(0,0,r0),(1,0,r1),(2,0,r2),(3,0,r3),(4,0,qao [])]:=by
 intro w β us hH hd hi
 refine (h w β us hH hd hi).mono fun e w' ⟨v,β',he,hle,hx,hh,hd'⟩=>?_
 obtain⟨vs,hvs,rfl⟩:=hx
 match vs,hvs with
 | [v0,v1],⟨⟨ws,hws,h0⟩,hv1,_⟩=>
 match ws,hws with
 | [a0,a1,a2,a3,a4],⟨k0,k1,k2,k3,k4,_⟩=>
 have k3':a3=.slice none 0 0:=k3
 subst k3' h0
 have hd4:=hd' 4 (by omega)
 have hle4:β'.le (β'.setG 4 (.slice none 0 0)):=Bl.le_setG hd4.1 hd4.2
 refine⟨_,β'.setG 4 (.slice none 0 0),he,Bl.le_trans hle hle4,⟨[.agg #[a0,a1,a2,.slice none 0 0,a4],v1],⟨⟨[a0,a1,a2,.slice none 0 0,a4],⟨S0.is_mono hle4 k0,S0.is_mono hle4 k1,S0.is_mono hle4 k2,⟨Bl.setG_same _ _ _,none,0,rfl⟩,S0.is_mono hle4 k4,tI⟩,rfl⟩,hv1,tI⟩,rfl⟩,?_,qbH hd'⟩
 have ho:w'.ownsRow w.heap.size 62 5 (.slice none 0 0) 0 []:=⟨rfl,Or.inl ⟨rfl,rfl⟩⟩
 have look:∀ c o s,qag [(0,0,r0),(1,0,r1),(2,0,r2),(3,0,r3),(4,0,qao [])] c o=some s→(c=4∧o=0∧s=qao [])∨(c≠4∧qag [(0,0,r0),(1,0,r1),(2,0,r2),(3,0,r3)] c o=some s):=by
  intro c o s hs
  by_cases hc:c=4
  ·subst hc
   simp only[qah,if_neg (show ¬ ((0:Nat)=4∧(0:Nat)=o) by omega),if_neg (show ¬ ((1:Nat)=4∧(0:Nat)=o) by omega),if_neg (show ¬ ((2:Nat)=4∧(0:Nat)=o) by omega),if_neg (show ¬ ((3:Nat)=4∧(0:Nat)=o) by omega)] at hs
   split at hs
   ·rename_i e4
    exact Or.inl ⟨rfl,e4.2.symm,(Option.some.inj hs).symm⟩
   ·cases hs
  ·refine Or.inr ⟨hc,?_⟩
   have e4:¬ ((4:Nat)=c∧(0:Nat)=o):=fun e=>hc e.1.symm
   simp only[qah] at hs ⊢
   rw[if_neg e4] at hs
   exact hs
 refine⟨hh.gr,hh.live,hh.inj,hh.new,fun c r hc=>?_,fun c o s hs hsr=>?_,fun c o e es n xs hs=>?_,fun c o e es n xs c' o' e' es' n' xs' u v hs hs' h1 h2 hne gu gv k hu hv=>?_,fun c o xs hs=>?_⟩
 ·have hc':β' c=some r:=hc
  have:c≠4:=fun e=>by subst e;rw[hd4.1] at hc';cases hc'
  show (if c=4 then _ else β'.g c)=none
  rw[if_neg this]
  exact hh.sep c r hc'
 ·rcases look _ _ _ hs with ⟨_,_,rfl⟩ | ⟨_,hs⟩
  ·cases hsr
  ·obtain⟨r,uu,g1,g2,g3⟩:=hh.cells c o s hs hsr
   exact⟨r,uu,g1,SV.is_mono hle4 g2,g3⟩
 ·rcases look _ _ _ hs with ⟨rfl,_,e1⟩ | ⟨hc,hs⟩
  ·cases e1
   refine⟨_,Bl.setG_same _ _ _,qek ho,(fun v hv=>by cases hv),fun h=>by omega,fun _=>ho,fun _ c r hc hu=>by cases hu⟩
  ·obtain⟨uu,g1,g2⟩:=hh.rows c o e es n xs hs
   exact⟨uu,hle4.g g1,g2.rd,g2.one,g2.low,g2.own,fun h c' r hc' hu=>g2.apart h c' r hc' hu⟩
 ·rcases look _ _ _ hs with ⟨rfl,_,e1⟩ | ⟨hc,hs⟩
  ·have gu':=gu
   rw[Bl.setG_same] at gu'
   cases gu';cases hu
  ·rcases look _ _ _ hs' with ⟨rfl,_,e1⟩ | ⟨hc2,hs2⟩
   ·have gv':=gv
    rw[Bl.setG_same] at gv'
    cases gv';cases hv
   ·have e1:β'.g c=some u:=by
     have g':(if c=4 then some (Value.slice none 0 0) else β'.g c)=some u:=gu
     rwa [if_neg hc] at g'
    have e2:β'.g c'=some v:=by
     have g':(if c'=4 then some (Value.slice none 0 0) else β'.g c')=some v:=gv
     rwa [if_neg hc2] at g'
    exact hh.rinj c o e es n xs c' o' e' es' n' xs' u v hs hs2 h1 h2 hne e1 e2 k hu hv
 ·rcases look _ _ _ hs with ⟨_,_,e1⟩ | ⟨_,hs⟩
  ·cases e1
  ·exact hh.maps c o xs hs
end
end Go.Proofs.YtkjaanhddkkodaaGreat

namespace Go.Proofs.YtkjaanhddkkodaaGreat
set_option maxRecDepth 100000
open Go.RowKit
section
variable {u fr wh:List Int} {b:List Bool} {ev:List Ev}
theorem qsN {n:Nat} (h1:1≤n) (h2:n≤200):Fn 50 0 [.pv (iV (n:Int))] [] (.tu [.ag [.ls 0 n,.ls 1 n,.ls 2 n,.ls 4 0,.ls 3 n],.one (.pv (iV 0))]) 5
 [(0,0,.row 3 1 n (ziV (List.replicate n 0))),(1,0,.row 4 1 n (zbV (List.replicate n false))),(2,0,.row 3 1 n (ziV (qaS n))),(3,0,.row 3 1 n (ziV (List.replicate n (-1)))),(4,0,qao [])]:=
 qus (qDz (qyh h1 h2) (qlp (z:=-1) h1 h2)) ⟨rfl,rfl,rfl,rfl⟩
def cnE (ev:List Ev) (z:Int):Int:=if 0≤z∧z≤1000000 then (if (∃ m∈ev,m.k=z) then 14 else 0) else 2
abbrev cxT (ev:List Ev) (k:Nat):List (Nat×SV):=[(0,.ls 3 ev.length),(1,.pc 224 [.pp 6 0]),(7,.pv (iV (ev.length:Int))),(8,.pv (iV (k:Int)))]
theorem qvA {z:Int} (hl:ev.length≤1000000) (h:∀ m∈ev,m.k≠z):∀ (d k:Nat),k+d=ev.length→Rl 5 7 241 0 19 7 (cxT ev k) [(6,0,.pv (iV z)),(3,0,qao ev)] (.exit 0) [] []:=by
 intro d
 induction d with
 | zero=>intro k hk;exact qAC (decide_eq_false (by omega))
 | succ d ih=>
  intro k hk
  have hx:ev[k]?=some ev[k]:=List.getElem?_eq_getElem (by omega)
  exact qon hx (by omega) (decide_eq_true (by omega)) (by simpa using h _ (List.getElem_mem _)) (qaC (by omega)) (ih (k+1) (by omega))
theorem qub {z:Int} (hl:ev.length≤1000000):∀ (d k:Nat),k+d=ev.length→(∃ j m,k≤j∧ev[j]?=some m∧m.k=z)→∃ q:Nat,Rl 5 7 241 0 19 7 (cxT ev k) [(6,0,.pv (iV z)),(3,0,qao ev)] .ret [(4,.pv (iV (q:Int)))] []:=by
 intro d
 induction d with
 | zero=>intro k hk ⟨j,m,a,c,_⟩;have:=(List.getElem?_eq_some_iff.1 c).1;omega
 | succ d ih=>
  intro k hk ⟨j,m,a,c,e⟩
  have hx:ev[k]?=some ev[k]:=List.getElem?_eq_getElem (by omega)
  by_cases h1:ev[k].k=z
  ·exact⟨k,qAe hx (by omega) (decide_eq_true (by omega)) (by simpa using h1)⟩
  ·obtain⟨q,r⟩:=ih (k+1) (by omega) ⟨j,m,by
    rcases Nat.lt_or_ge k j with g | g
    ·exact g
    ·have e':k=j:=by omega
     subst e'
     rw[hx] at c
     exact (h1 (by rw[Option.some.inj c];exact e)).elim,c,e⟩
   exact⟨q,qon hx (by omega) (decide_eq_true (by omega)) (by simpa using h1) (qaC (by omega)) r⟩
theorem qev (hl:ev.length≤1000000) (z:Int):Fn 199 5 [agA u b fr ev wh,.pv (iV z)] (agP u b fr ev wh) (.pv (iV (cnE ev z))) 0 []:=by
 have hn:=qgk z
 unfold cnE
 by_cases h1:0≤z∧z≤1000000
 ·rw[decide_eq_true h1] at hn
  rw[if_pos h1]
  by_cases h2:∃ m∈ev,m.k=z
  ·rw[if_pos h2]
   obtain⟨m,hm,e⟩:=h2
   obtain⟨j,hj⟩:=List.mem_iff_getElem?.1 hm
   obtain⟨q,r⟩:=qub (z:=z) hl ev.length 0 (by omega) ⟨j,m,by omega,hj,e⟩
   exact qp8 hn r (decide_eq_true (by omega))
  ·rw[if_neg h2]
   exact qC2 hn (qvA hl (fun m hm e=>h2 ⟨m,hm,e⟩) ev.length 0 (by omega))
 ·rw[decide_eq_false h1] at hn
  rw[if_neg h1]
  exact qzG hn
theorem qdM {hi hw:Int} (h:Vd u b fr) (hl:Live u b hi hw):Fn 159 5 [agA u b fr ev wh,.pv (qaL hi hw)] (agP u b fr ev wh) (.pv (iV 0)) 0 []:=qzH (qui h hl)
theorem qh8 {hi hw:Int} (h:Vd u b fr) (hl:¬ Live u b hi hw):Fn 159 5 [agA u b fr ev wh,.pv (qaL hi hw)] (agP u b fr ev wh) (.pv (iV 6)) 0 []:=qEe (qzA h hl)
theorem VA.find {hi hw:Int} (h:VA u b fr ev wh) (hl:Live u b hi hw):∃ j x,wh[hi.toNat]?=some ((j:Nat):Int)∧ev[j]?=some x∧x.i=hi∧x.w=hw:=by
 obtain⟨j,x,h1,h2,h3,h4⟩:=h.used hl.used
 have:=hl.lo
 refine⟨j,x,h1,h2,by omega,?_⟩
 have h5:=hl.use
 rw[h4] at h5
 exact Option.some.inj h5
abbrev evZ:Value:=.agg #[iV 0,iV 0,iV 0,iV 0,iV 0]
abbrev agZ:Value:=.agg #[.slice none 0 0,.slice none 0 0,.slice none 0 0,.slice none 0 0,.slice none 0 0]
theorem qhH (h:VA u b fr ev wh) (he:ev=[]):Fn 61 5 [agA u b fr ev wh] (agP u b fr ev wh) (.pv (.tuple #[evZ,iV 42])) 0 []:=qsZ (qbJ h) (by subst he;rfl)
theorem qe0 {x:Ev} (h:VA u b fr ev wh) (hx:ev[0]?=some x):Fn 61 5 [agA u b fr ev wh] (agP u b fr ev wh) (.pv (.tuple #[qab x,iV 0])) 0 []:=by
 have:=(List.getElem?_eq_some_iff.1 hx).1
 exact qB3 (qbJ h) (by simp;intro e;rw[e] at this;simp at this) hx (by omega)
theorem qlw {hi hw:Int} (h:VA u b fr ev wh) (hl:¬ Live u b hi hw):Fn 203 5 [agA u b fr ev wh,.pv (qaL hi hw)] (agP u b fr ev wh) (.pv (.tuple #[evZ,iV 6])) 0 []:=qug (qbJ h) (qh8 h.vd hl) (qCN (by decide) (by decide))
theorem qls {hi hw:Int} {j:Nat} {x:Ev} (h:VA u b fr ev wh) (hl:Live u b hi hw) (hj:wh[hi.toNat]?=some (j:Int)) (hx:ev[j]?=some x):Fn 203 5 [agA u b fr ev wh,.pv (qaL hi hw)] (agP u b fr ev wh) (.pv (.tuple #[qab x,iV 0])) 0 []:=by
 have:=(List.getElem?_eq_some_iff.1 hj).1
 have:=(List.getElem?_eq_some_iff.1 hx).1
 have:=hl.lo
 exact qCZ (qbJ h) (qdM h.vd hl) (qDT (by decide) (by decide)) (by omega) hj (by omega) hx
abbrev qDb (ev3:List Ev) (u2:List Int) (b2:List Bool) (f2 wh3:List Int):S1:=.ag [.ls 5 u2.length,.ls 6 b2.length,.ls 7 f2.length,.ls 8 ev3.length,.ls 9 wh3.length]
abbrev qs5 (ev3:List Ev) (u2:List Int) (b2:List Bool) (f2 wh3:List Int):List (Nat×Nat×SV):=[(5,0,zrI u2),(6,0,zrB b2),(7,0,zrI f2),(8,0,qao ev3),(9,0,zrI wh3)]
theorem qsg {hi hw:Int} (h:VA u b fr ev wh) (hl:¬ Live u b hi hw):Fn 163 5 [agA u b fr ev wh,.pv (qaL hi hw)] (agP u b fr ev wh) (.pv (.tuple #[agZ,evZ,iV 6])) 0 []:=qvS (qlw h hl)
theorem qhT {hi hw:Int} {j:Nat} {x:Ev} (h:VA u b fr ev wh) (hl:Live u b hi hw) (hj:wh[hi.toNat]?=some (j:Int)) (hx:ev[j]?=some x):Fn 163 5 [agA u b fr ev wh,.pv (qaL hi hw)] (agP u b fr ev wh)
 (.tu [qDb (qan ev wh j x).1 u (b.set x.i.toNat false) (fr++[x.i]) (qan ev wh j x).2,.one (.pv (qab x)),.one (.pv (iV 0))]) 5 (qs5 (qan ev wh j x).1 u (b.set x.i.toNat false) (fr++[x.i]) (qan ev wh j x).2):=by
 have:=(List.getElem?_eq_some_iff.1 hj).1
 have:=hl.lo
 exact qCq (qls h hl hj hx) (by omega) hj (qib h hx)
theorem qiF {hi hw tn td:Int} {j:Nat} {x:Ev} (ht:I64 tn∧I64 td) (h0:okB tn td=true) (h:VA u b fr ev wh) (hl:Live u b hi hw) (hj:wh[hi.toNat]?=some (j:Int)) (hx:ev[j]?=some x):Fn 111 5 [agA u b fr ev wh,.pv (qaL hi hw),.pv (qaa tn td)] (agP u b fr ev wh)
 (.tu [qDb (qa0 ev wh j x tn td).1 u b fr (qa0 ev wh j x tn td).2,.one (.pv (iV 0))]) 5 (qs5 (qa0 ev wh j x tn td).1 u b fr (qa0 ev wh j x tn td).2):=by
 have:=(List.getElem?_eq_some_iff.1 hj).1
 have:=hl.lo
 exact qBW (qbJ h) (qcc ht.1 ht.2 h0) (qdM h.vd hl) (qwp (by decide) (by decide) (by decide)) (by omega) hj (qiH h hx ht h0)
abbrev psZ (e:Int):SV:=.pv (.tuple #[agZ,qaL 0 0,iV e])
theorem qlm {tn td z:Int} (ht:I64 tn∧I64 td) (h0:okB tn td=true) (h:VA u b fr ev wh) (hz:cnE ev z=0) (hk:qbD u b fr=none):Fn 161 5 [agA u b fr ev wh,.pv (qaa tn td),.pv (iV z)] (agP u b fr ev wh) (psZ 18) 0 []:=by
 have hn:=qev (u:=u) (b:=b) (fr:=fr) (ev:=ev) (wh:=wh) (by have:=h.lens;omega) z
 rw[hz] at hn
 exact quN (qbJ h) (qcc ht.1 ht.2 h0) hn (qwp (by decide) (by decide) (by decide)) (qnr h.vd hk)
theorem qoE {u2 f2:List Int} {b2:List Bool} {hi hw:Int} (h:Vd u b fr) (hk:qbD u b fr=some (u2,b2,f2,hi,hw)):0≤hi∧hi<(u.length:Int):=by
 obtain⟨y,h1,_⟩:=qbp hk
 obtain⟨e,_,_⟩:=qbT h1
 exact h.rng hi (by rw[e];simp)
theorem qk8 {tn td z:Int} {u2 f2:List Int} {b2:List Bool} {hi hw:Int} (ht:I64 tn∧I64 td) (h0:okB tn td=true) (h:VA u b fr ev wh) (hz:cnE ev z=0) (hk:qbD u b fr=some (u2,b2,f2,hi,hw)) :
 Fn 161 5 [agA u b fr ev wh,.pv (qaa tn td),.pv (iV z)] (agP u b fr ev wh)
  (.tu [qDb (qba ev wh ⟨tn,td,z,hi,hw⟩).1 u2 b2 f2 (qba ev wh ⟨tn,td,z,hi,hw⟩).2,.one (.pv (qaL hi hw)),.one (.pv (iV 0))]) 5 (qs5 (qba ev wh ⟨tn,td,z,hi,hw⟩).1 u2 b2 f2 (qba ev wh ⟨tn,td,z,hi,hw⟩).2):=by
 have hlen:=h.lens
 have hn:=qev (u:=u) (b:=b) (fr:=fr) (ev:=ev) (wh:=wh) (by omega) z
 rw[hz] at hn
 have hzr:0≤z∧z≤1000000:=by
  apply Classical.byContradiction
  intro hne
  unfold cnE at hz
  rw[if_neg hne] at hz
  cases hz
 have hin:=qoE h.vd hk
 exact qDJ (qbJ h) (qcc ht.1 ht.2 h0) hn (qwp (by decide) (by decide) (by decide)) (qnV h.vd hk) (qkz (x:=⟨tn,td,z,hi,hw⟩) (by omega) (by omega) h.inv ⟨ht,h0,hzr.1,hzr.2⟩ ⟨hin.1,by have:=hin.2;simp only;omega⟩)
end
end Go.Proofs.YtkjaanhddkkodaaGreat

namespace Go.Proofs.YtkjaanhddkkodaaGreat
set_option maxRecDepth 100000
open Go.RowKit
abbrev qBO (c:Int) (x:Ev) (y:Ev):Prop:=Pure Tryz.prog 40 #[qaa x.n x.d,qaa y.n y.d] (iV c)
theorem qCK {x y:Ev} {c:Int} (hc:qBO c x y) (h1:decide (c<0)=true):Pure Tryz.prog 131 #[qab x,qab y] (.bool true):=
 qaA (args:=[qab x,qab y]) 300 [Rf hc,.t true] (Ai rfl (Ai hc (Ai h1 tI))) (by kernel_rfl)
theorem qCJ {x y:Ev} {c:Int} (hc:qBO c x y) (h1:decide (c<0)=false) (h2:(c==0)=false):Pure Tryz.prog 131 #[qab x,qab y] (.bool false):=
 qaA (args:=[qab x,qab y]) 300 [Rf hc,.t false,.t false] (Ai rfl (Ai hc (Ai h1 (Ai h2 tI)))) (by kernel_rfl)
theorem qlA {x y:Ev} {c:Int} (hc:qBO c x y) (h1:decide (c<0)=false) (h2:(c==0)=true) (h3:decide (x.k<y.k)=true):Pure Tryz.prog 131 #[qab x,qab y] (.bool true):=
 qaA (args:=[qab x,qab y]) 300 [Rf hc,.t false,.t true,.t true] (Ai rfl (Ai hc (Ai h1 (Ai h2 (Ai h3 tI))))) (by kernel_rfl)
theorem qiX {x y:Ev} {c:Int} (hc:qBO c x y) (h1:decide (c<0)=false) (h2:(c==0)=true) (h3:decide (x.k<y.k)=false):Pure Tryz.prog 131 #[qab x,qab y] (.bool false):=
 qaA (args:=[qab x,qab y]) 300 [Rf hc,.t false,.t true,.t false] (Ai rfl (Ai hc (Ai h1 (Ai h2 (Ai h3 tI))))) (by kernel_rfl)
abbrev qda (b:List Bool) (ev:List Ev) (fr:List Int) (u:List Int) (wh:List Int):HpL:=[(5,0,.ls 0 u.length),(5,1,.ls 1 b.length),(5,2,.ls 2 fr.length),(5,3,.ls 3 ev.length),(5,4,.ls 4 wh.length),(0,0,zrI u),(1,0,zrB b),(2,0,zrI fr),(3,0,qao ev),(4,0,zrI wh)]
abbrev qsu (k:Nat) (u:List Int):TmL:=[(1,.pp 5 0),(3,.pv (iV (u.length:Int))),(4,.pv (iV (k:Int)))]
theorem qsy {u fr wh:List Int} {b:List Bool} {ev:List Ev} {z:Int} {k:Nat} (hb:b[k]?=some false) (hib:0≤(k:Int)∧(k:Int)<(b.length:Int)) (hiw:0≤(k:Int)∧(k:Int)<(wh.length:Int)) (hw:wh[k]?=some z) (hlt:decide ((k:Int)<(u.length:Int))=true) (hz:(!(z==-1))=false) (hs:iV (IntKind.i64.wrap ((k:Int)+1))=iV (((k+1:Nat):Int))) {e:Exit} {tm2:TmL} {hp2:HpL}
 (r:Rl 5 5 130 0 82 6 ([(1,.pp 5 0),(3,.pv (iV (u.length:Int))),(4,.pv (iV ((k+1:Nat):Int)))]) (qda b ev fr u wh) e tm2 hp2):Rl 5 5 130 0 82 6 (qsu k u) (qda b ev fr u wh) e tm2 hp2:=
 RunsL.next [] 300 [.t true,.r (.bool false),.k,.r (iV (z)),.t false,Re hs]
  (Ro (Ai hlt (Ai hib (Ai (qcy hb) (Ai hiw (Ai (qbb hw) (Ai hz (Ai hs tI)))))))) r
theorem quy {u fr wh:List Int} {b:List Bool} {ev:List Ev} {z:Int} {k:Nat} (hb:b[k]?=some false) (hib:0≤(k:Int)∧(k:Int)<(b.length:Int)) (hiw:0≤(k:Int)∧(k:Int)<(wh.length:Int)) (hw:wh[k]?=some z) (hlt:decide ((k:Int)<(u.length:Int))=true) (hz:(!(z==-1))=true):Rl 5 5 130 0 82 6 (qsu k u) (qda b ev fr u wh) (.ret) ([(2,.pv (.bool false))]) ([]):=
 RunsL.stop [] 300 [.t true,.r (.bool false),.k,.r (iV (z)),.t true] (fun h=>by cases h)
  (Ro (Ai hlt (Ai hib (Ai (qcy hb) (Ai hiw (Ai (qbb hw) (Ai hz tI)))))))
theorem qyX {u fr wh:List Int} {b:List Bool} {ev:List Ev} {z:Int} {k:Nat} (hb:b[k]?=some true) (hib:0≤(k:Int)∧(k:Int)<(b.length:Int)) (hiw:0≤(k:Int)∧(k:Int)<(wh.length:Int)) (hw:wh[k]?=some z) (hlt:decide ((k:Int)<(u.length:Int))=true) (h0:decide (z<0)=true):Rl 5 5 130 0 82 6 (qsu k u) (qda b ev fr u wh) (.ret) ([(2,.pv (.bool false))]) ([]):=
 RunsL.stop [] 300 [.t true,.r (.bool true),.k,.r (iV (z)),.t true] (fun h=>by cases h)
  (Ro (Ai hlt (Ai hib (Ai (qcy hb) (Ai hiw (Ai (qbb hw) (Ai h0 tI)))))))
theorem qxn {u fr wh:List Int} {b:List Bool} {ev:List Ev} {z:Int} {k:Nat} (hb:b[k]?=some true) (hib:0≤(k:Int)∧(k:Int)<(b.length:Int)) (hiw:0≤(k:Int)∧(k:Int)<(wh.length:Int)) (hw:wh[k]?=some z) (hlt:decide ((k:Int)<(u.length:Int))=true) (h0:decide (z<0)=false) (h1:decide (z≥(ev.length:Int))=true):Rl 5 5 130 0 82 6 (qsu k u) (qda b ev fr u wh) (.ret) ([(2,.pv (.bool false))]) ([]):=
 RunsL.stop [] 300 [.t true,.r (.bool true),.k,.r (iV (z)),.t false,.t true] (fun h=>by cases h)
  (Ro (Ai hlt (Ai hib (Ai (qcy hb) (Ai hiw (Ai (qbb hw) (Ai h0 (Ai h1 tI))))))))
theorem qxp {u fr wh:List Int} {b:List Bool} {ev:List Ev} {x:Ev} {z:Int} {k:Nat} (hb:b[k]?=some true) (hib:0≤(k:Int)∧(k:Int)<(b.length:Int)) (hiw:0≤(k:Int)∧(k:Int)<(wh.length:Int)) (hw:wh[k]?=some z) (hlt:decide ((k:Int)<(u.length:Int))=true) (h0:decide (z<0)=false) (h1:decide (z≥(ev.length:Int))=false) (hx:ev[z.toNat]?=some x) (hiz:0≤z∧z<(ev.length:Int)) (h2:(!(x.i==(k:Int)))=true):Rl 5 5 130 0 82 6 (qsu k u) (qda b ev fr u wh) (.ret) ([(2,.pv (.bool false))]) ([]):=
 RunsL.stop [] 300 [.t true,.r (.bool true),.k,.r (iV (z)),.t false,.t false,.r (iV (x.i)),.t true] (fun h=>by cases h)
  (Ro (Ai hlt (Ai hib (Ai (qcy hb) (Ai hiw (Ai (qbb hw) (Ai h0 (Ai h1 (Ai hiz (Ai (qDM hx) (Ai h2 tI)))))))))))
theorem quw {u fr wh:List Int} {b:List Bool} {ev:List Ev} {x:Ev} {z:Int} {k:Nat} (hb:b[k]?=some true) (hib:0≤(k:Int)∧(k:Int)<(b.length:Int)) (hiw:0≤(k:Int)∧(k:Int)<(wh.length:Int)) (hw:wh[k]?=some z) (hlt:decide ((k:Int)<(u.length:Int))=true) (h0:decide (z<0)=false) (h1:decide (z≥(ev.length:Int))=false) (hx:ev[z.toNat]?=some x) (hiz:0≤z∧z<(ev.length:Int)) (h2:(!(x.i==(k:Int)))=false) (hl:Fn 132 3 [.ag [.ls 0 u.length,.ls 1 b.length,.ls 2 fr.length],.pv (qaL x.i x.w)] [(0,0,zrI u),(1,0,zrB b),(2,0,zrI fr)] (.pv (.bool false)) 0 []):Rl 5 5 130 0 82 6 (qsu k u) (qda b ev fr u wh) (.ret) ([(2,.pv (.bool false))]) ([]):=
 RunsL.stop [] 300 [.t true,.r (.bool true),.k,.r (iV (z)),.t false,.t false,.r (iV (x.i)),.t false,.r (qaL x.i x.w),Cf hl [0,1,2],.k] (fun h=>by cases h)
  (Ro (Ai hlt (Ai hib (Ai (qcy hb) (Ai hiw (Ai (qbb hw) (Ai h0 (Ai h1 (Ai hiz (Ai (qDM hx) (Ai h2 (Ai hiz (Ai (qwB hx) (Co hl [0,1,2] 6 tI))))))))))))))
theorem qt7 {u fr wh:List Int} {b:List Bool} {ev:List Ev} {x:Ev} {z:Int} {k:Nat} (hb:b[k]?=some true) (hib:0≤(k:Int)∧(k:Int)<(b.length:Int)) (hiw:0≤(k:Int)∧(k:Int)<(wh.length:Int)) (hw:wh[k]?=some z) (hlt:decide ((k:Int)<(u.length:Int))=true) (h0:decide (z<0)=false) (h1:decide (z≥(ev.length:Int))=false) (hx:ev[z.toNat]?=some x) (hiz:0≤z∧z<(ev.length:Int)) (h2:(!(x.i==(k:Int)))=false) (hl:Fn 132 3 [.ag [.ls 0 u.length,.ls 1 b.length,.ls 2 fr.length],.pv (qaL x.i x.w)] [(0,0,zrI u),(1,0,zrB b),(2,0,zrI fr)] (.pv (.bool true)) 0 []) (hs:iV (IntKind.i64.wrap ((k:Int)+1))=iV (((k+1:Nat):Int))) {e:Exit} {tm2:TmL} {hp2:HpL}
 (r:Rl 5 5 130 0 82 6 ([(1,.pp 5 0),(3,.pv (iV (u.length:Int))),(4,.pv (iV ((k+1:Nat):Int)))]) (qda b ev fr u wh) e tm2 hp2):Rl 5 5 130 0 82 6 (qsu k u) (qda b ev fr u wh) e tm2 hp2:=
 RunsL.next [] 300 [.t true,.r (.bool true),.k,.r (iV (z)),.t false,.t false,.r (iV (x.i)),.t false,.r (qaL x.i x.w),Cf hl [0,1,2],.k,Re hs]
  (Ro (Ai hlt (Ai hib (Ai (qcy hb) (Ai hiw (Ai (qbb hw) (Ai h0 (Ai h1 (Ai hiz (Ai (qDM hx) (Ai h2 (Ai hiz (Ai (qwB hx) (Co hl [0,1,2] 6 (Ai hs tI))))))))))))))) r
theorem qyY {u fr wh:List Int} {b:List Bool} {ev:List Ev} {k:Nat} (hge:decide ((k:Int)<(u.length:Int))=false):Rl 5 5 130 0 82 6 (qsu k u) (qda b ev fr u wh) (.exit 0) ([]) ([]):=
 RunsL.stop [] 300 [.t false] (fun h=>by cases h)
  (Ro (Ai hge tI))
abbrev qlj (b:List Bool) (ev:List Ev) (fr:List Int) (u:List Int) (wh:List Int):HpL:=[(0,0,zrI u),(1,0,zrB b),(2,0,zrI fr),(3,0,qao ev),(4,0,zrI wh)]
theorem qxl {u fr wh:List Int} {b:List Bool} {ev:List Ev} (h1:(!((wh.length:Int)==(u.length:Int)))=true) :
 Fn 130 5 [agA u b fr ev wh] (qlj b ev fr u wh) (.pv (.bool false)) 0 []:=
 Fz [] [.t true]
  tI (Ai h1 tI)
theorem qya {u fr wh:List Int} {b:List Bool} {ev:List Ev} {z:Int} (h1:(!((wh.length:Int)==(u.length:Int)))=false) (h2:iV (IntKind.i64.wrap ((u.length:Int)-(fr.length:Int)))=iV (z)) (h3:(!((ev.length:Int)==z))=true) :
 Fn 130 5 [agA u b fr ev wh] (qlj b ev fr u wh) (.pv (.bool false)) 0 []:=
 Fz [] [.t false,Re h2,.t true]
  tI (Ai h1 (Ai h2 (Ai h3 tI)))
theorem qEo {u fr wh:List Int} {b:List Bool} {ev:List Ev} {z:Int} (h1:(!((wh.length:Int)==(u.length:Int)))=false) (h2:iV (IntKind.i64.wrap ((u.length:Int)-(fr.length:Int)))=iV (z)) (h3:(!((ev.length:Int)==z))=false) (r0:Rl 5 5 130 0 82 6 ([(1,.pp 5 0),(3,.pv (iV (u.length:Int))),(4,.pv (iV ((0:Nat):Int)))]) (qda b ev fr u wh) (.ret) ([(2,.pv (.bool false))]) ([])) :
 Fn 130 5 [agA u b fr ev wh] (qlj b ev fr u wh) (.pv (.bool false)) 0 []:=
 Fz [] [.t false,Re h2,.t false,Lf r0]
  tI (Ai h1 (Ai h2 (Ai h3 (Lo r0 [] tI))))
theorem qyK {u fr wh:List Int} {b:List Bool} {ev:List Ev} {z:Int} (h1:(!((wh.length:Int)==(u.length:Int)))=false) (h2:iV (IntKind.i64.wrap ((u.length:Int)-(fr.length:Int)))=iV (z)) (h3:(!((ev.length:Int)==z))=false) (r0:Rl 5 5 130 0 82 6 ([(1,.pp 5 0),(3,.pv (iV (u.length:Int))),(4,.pv (iV ((0:Nat):Int)))]) (qda b ev fr u wh) (.exit 0) ([]) ([])) :
 Fn 130 5 [agA u b fr ev wh] (qlj b ev fr u wh) (.pv (.bool true)) 0 []:=
 Fz [] [.t false,Re h2,.t false,Lf r0]
  tI (Ai h1 (Ai h2 (Ai h3 (Lo r0 [] tI))))
abbrev qwM (b:List Bool) (ev:List Ev) (fr:List Int) (m:Ev) (u:List Int) (wh:List Int):HpL:=[(6,0,.pv (iV m.n)),(6,1,.pv (iV m.d)),(6,2,.pv (iV m.k)),(6,3,.pv (iV m.i)),(6,4,.pv (iV m.w)),(5,0,.ls 0 u.length),(5,1,.ls 1 b.length),(5,2,.ls 2 fr.length),(5,3,.ls 3 ev.length),(5,4,.ls 4 wh.length),(0,0,zrI u),(1,0,zrB b),(2,0,zrI fr),(3,0,qao ev),(4,0,zrI wh)]
abbrev qBZ (j:Nat) (k:Nat):TmL:=[(1,.pp 5 0),(3,.pv (iV (k:Int))),(4,.pp 6 0),(5,.pv (iV (j:Int)))]
theorem qxQ {u fr wh:List Int} {b:List Bool} {ev:List Ev} {y m:Ev} {k j:Nat} (hj:ev[j]?=some y) (hij:0≤(j:Int)∧(j:Int)<(ev.length:Int)) (hlt:decide ((j:Int)<(k:Int))=true) (hq:(y.k==m.k)=false) (hs:iV (IntKind.i64.wrap ((j:Int)+1))=iV (((j+1:Nat):Int))) {e:Exit} {tm2:TmL} {hp2:HpL}
 (r:Rl 5 5 77 1 76 7 ([(1,.pp 5 0),(3,.pv (iV (k:Int))),(4,.pp 6 0),(5,.pv (iV ((j+1:Nat):Int)))]) (qwM b ev fr m u wh) e tm2 hp2):Rl 5 5 77 1 76 7 (qBZ j k) (qwM b ev fr m u wh) e tm2 hp2:=
 RunsL.next [] 300 [.t true,.r (iV (y.k)),.t false,Re hs]
  (Ro (Ai hlt (Ai hij (Ai (qE0 hj) (Ai hq (Ai hs tI)))))) r
theorem qoW {u fr wh:List Int} {b:List Bool} {ev:List Ev} {y m:Ev} {k j:Nat} (hj:ev[j]?=some y) (hij:0≤(j:Int)∧(j:Int)<(ev.length:Int)) (hlt:decide ((j:Int)<(k:Int))=true) (hq:(y.k==m.k)=true):Rl 5 5 77 1 76 7 (qBZ j k) (qwM b ev fr m u wh) (.ret) ([(2,.pv (iV 8))]) ([]):=
 RunsL.stop [] 300 [.t true,.r (iV (y.k)),.t true] (fun h=>by cases h)
  (Ro (Ai hlt (Ai hij (Ai (qE0 hj) (Ai hq tI)))))
abbrev qrY (k:Nat):TmL:=[(1,.pp 5 0),(3,.pv (iV (k:Int)))]
theorem qqG {u fr wh:List Int} {b:List Bool} {ev:List Ev} {m:Ev} {k j:Nat} (hge:decide ((j:Int)<(k:Int))=false):Rl 5 5 77 1 76 7 (qBZ j k) (qwM b ev fr m u wh) (.exit 2) (qrY k) (qda b ev fr u wh):=
 RunsL.stop [] 300 [.t false] (fun h=>by cases h)
  (Ro (Ai hge tI))
theorem qyS {u fr wh:List Int} {b:List Bool} {ev:List Ev} {m:Ev} {k:Nat} (hk:ev[k]?=some m) (hin:0≤(k:Int)∧(k:Int)<(ev.length:Int)) (hlt:decide ((k:Int)<(ev.length:Int))=true) (hc:Pure Tryz.prog 75 #[qaa m.n m.d] (iV (8))):Rl 5 5 77 0 76 6 (qrY k) (qda b ev fr u wh) (.ret) ([(2,.pv (iV 8))]) ([]):=
 RunsL.stop [] 300 [.t true,.r (qab m),Rf hc,.k] (fun h=>by cases h)
  (Ro (Ai hlt (Ai hin (Ai (qbc hk) (Ai hc tI)))))
abbrev qBc (m:Ev):Prop:=Pure Tryz.prog 75 #[qaa m.n m.d] (iV (0))
theorem qyF {u fr wh:List Int} {b:List Bool} {ev:List Ev} {m:Ev} {k:Nat} (hk:ev[k]?=some m) (hin:0≤(k:Int)∧(k:Int)<(ev.length:Int)) (hlt:decide ((k:Int)<(ev.length:Int))=true) (hc:qBc m) (h1:decide (m.k<0)=true):Rl 5 5 77 0 76 6 (qrY k) (qda b ev fr u wh) (.ret) ([(2,.pv (iV 8))]) ([]):=
 RunsL.stop [] 300 [.t true,.r (qab m),Rf hc,.k,.t true] (fun h=>by cases h)
  (Ro (Ai hlt (Ai hin (Ai (qbc hk) (Ai hc (Ai h1 tI))))))
theorem qxG {u fr wh:List Int} {b:List Bool} {ev:List Ev} {m:Ev} {k:Nat} (hk:ev[k]?=some m) (hin:0≤(k:Int)∧(k:Int)<(ev.length:Int)) (hlt:decide ((k:Int)<(ev.length:Int))=true) (hc:qBc m) (h1:decide (m.k<0)=false) (h2:decide (m.k>1000000)=true):Rl 5 5 77 0 76 6 (qrY k) (qda b ev fr u wh) (.ret) ([(2,.pv (iV 8))]) ([]):=
 RunsL.stop [] 300 [.t true,.r (qab m),Rf hc,.k,.t false,.t true] (fun h=>by cases h)
  (Ro (Ai hlt (Ai hin (Ai (qbc hk) (Ai hc (Ai h1 (Ai h2 tI)))))))
theorem qvw {u fr wh:List Int} {b:List Bool} {ev:List Ev} {m:Ev} {k:Nat} (hk:ev[k]?=some m) (hin:0≤(k:Int)∧(k:Int)<(ev.length:Int)) (hlt:decide ((k:Int)<(ev.length:Int))=true) (hc:qBc m) (h1:decide (m.k<0)=false) (h2:decide (m.k>1000000)=false) (r1:Rl 5 5 77 1 76 7 ([(1,.pp 5 0),(3,.pv (iV (k:Int))),(4,.pp 6 0),(5,.pv (iV ((0:Nat):Int)))]) (qwM b ev fr m u wh) (.exit 2) (qrY k) (qda b ev fr u wh)) (hs:iV (IntKind.i64.wrap ((k:Int)+1))=iV (((k+1:Nat):Int))) {e:Exit} {tm2:TmL} {hp2:HpL}
 (r:Rl 5 5 77 0 76 6 ([(1,.pp 5 0),(3,.pv (iV ((k+1:Nat):Int)))]) (qda b ev fr u wh) e tm2 hp2):Rl 5 5 77 0 76 6 (qrY k) (qda b ev fr u wh) e tm2 hp2:=
 RunsL.next [] 300 [.t true,.r (qab m),Rf hc,.k,.t false,.t false,Lf r1,Re hs]
  (Ro (Ai hlt (Ai hin (Ai (qbc hk) (Ai hc (Ai h1 (Ai h2 (Lo r1 [] (Ai hs tI))))))))) r
theorem qyc {u fr wh:List Int} {b:List Bool} {ev:List Ev} {m:Ev} {k:Nat} (hk:ev[k]?=some m) (hin:0≤(k:Int)∧(k:Int)<(ev.length:Int)) (hlt:decide ((k:Int)<(ev.length:Int))=true) (hc:qBc m) (h1:decide (m.k<0)=false) (h2:decide (m.k>1000000)=false) (r1:Rl 5 5 77 1 76 7 ([(1,.pp 5 0),(3,.pv (iV (k:Int))),(4,.pp 6 0),(5,.pv (iV ((0:Nat):Int)))]) (qwM b ev fr m u wh) (.ret) ([(2,.pv (iV 8))]) ([])):Rl 5 5 77 0 76 6 (qrY k) (qda b ev fr u wh) (.ret) ([(2,.pv (iV 8))]) ([]):=
 RunsL.stop [] 300 [.t true,.r (qab m),Rf hc,.k,.t false,.t false,Lf r1] (fun h=>by cases h)
  (Ro (Ai hlt (Ai hin (Ai (qbc hk) (Ai hc (Ai h1 (Ai h2 (Lo r1 [] tI))))))))
theorem qzF {u fr wh:List Int} {b:List Bool} {ev:List Ev} {k:Nat} (hge:decide ((k:Int)<(ev.length:Int))=false):Rl 5 5 77 0 76 6 (qrY k) (qda b ev fr u wh) (.exit 0) ([(1,.pp 5 0)]) (qda b ev fr u wh):=
 RunsL.stop [] 300 [.t false] (fun h=>by cases h)
  (Ro (Ai hge tI))
theorem qn9 {u fr wh:List Int} {b:List Bool} {ev:List Ev} {x y:Ev} {k j q:Nat} (hk:ev[k]?=some x) (hin:0≤(k:Int)∧(k:Int)<(ev.length:Int)) (hj:ev[j]?=some y) (hij:0≤(j:Int)∧(j:Int)<(ev.length:Int)) (hlt:decide ((k:Int)<(ev.length:Int))=true) (hm:iV (IntKind.i64.wrap ((k:Int)-1))=iV (q:Int)) (nz:¬ (2:Int)=0) (hd:iV (IntKind.i64.wrap (Int.tdiv (q:Int) 2))=iV (j:Int)) (hl:Pure Tryz.prog 131 #[qab x,qab y] (.bool false)) (hs:iV (IntKind.i64.wrap ((k:Int)+1))=iV (((k+1:Nat):Int))) {e:Exit} {tm2:TmL} {hp2:HpL}
 (r:Rl 5 5 77 2 76 6 ([(1,.pp 5 0),(6,.pv (iV ((k+1:Nat):Int)))]) (qda b ev fr u wh) e tm2 hp2):Rl 5 5 77 2 76 6 ([(1,.pp 5 0),(6,.pv (iV (k:Int)))]) (qda b ev fr u wh) e tm2 hp2:=
 RunsL.next [] 300 [.t true,.r (qab x),Re hm,Re hd,.r (qab y),Rf hl,Re hs]
  (Ro (Ai hlt (Ai hin (Ai (qbc hk) (Ai hm (Ai nz (Ai hd (Ai hij (Ai (qbc hj) (Ai hl (Ai hs tI))))))))))) r
theorem qw6 {u fr wh:List Int} {b:List Bool} {ev:List Ev} {x y:Ev} {k j q:Nat} (hk:ev[k]?=some x) (hin:0≤(k:Int)∧(k:Int)<(ev.length:Int)) (hj:ev[j]?=some y) (hij:0≤(j:Int)∧(j:Int)<(ev.length:Int)) (hlt:decide ((k:Int)<(ev.length:Int))=true) (hm:iV (IntKind.i64.wrap ((k:Int)-1))=iV (q:Int)) (nz:¬ (2:Int)=0) (hd:iV (IntKind.i64.wrap (Int.tdiv (q:Int) 2))=iV (j:Int)) (hl:Pure Tryz.prog 131 #[qab x,qab y] (.bool true)):Rl 5 5 77 2 76 6 ([(1,.pp 5 0),(6,.pv (iV (k:Int)))]) (qda b ev fr u wh) (.ret) ([(2,.pv (iV 8))]) ([]):=
 RunsL.stop [] 300 [.t true,.r (qab x),Re hm,Re hd,.r (qab y),Rf hl] (fun h=>by cases h)
  (Ro (Ai hlt (Ai hin (Ai (qbc hk) (Ai hm (Ai nz (Ai hd (Ai hij (Ai (qbc hj) (Ai hl tI))))))))))
theorem qrU {u fr wh:List Int} {b:List Bool} {ev:List Ev} {k:Nat} (hge:decide ((k:Int)<(ev.length:Int))=false):Rl 5 5 77 2 76 6 ([(1,.pp 5 0),(6,.pv (iV (k:Int)))]) (qda b ev fr u wh) (.exit 4) ([]) ([]):=
 RunsL.stop [] 300 [.t false] (fun h=>by cases h)
  (Ro (Ai hge tI))
theorem quB {u fr wh:List Int} {b:List Bool} {ev:List Ev} (hs6:Fn 129 3 [.ag [.ls 0 u.length,.ls 1 b.length,.ls 2 fr.length]] [(0,0,zrI u),(1,0,zrB b),(2,0,zrI fr)] (.pv (iV (8))) 0 []) :
 Fn 77 5 [agA u b fr ev wh] (qlj b ev fr u wh) (.pv (iV (8))) 0 []:=
 Fz [] [Cf hs6 [0,1,2],.k]
  tI (Co hs6 [0,1,2] 6 tI)
abbrev qBh (b:List Bool) (fr:List Int) (u:List Int):Prop:=Fn 129 3 [.ag [.ls 0 u.length,.ls 1 b.length,.ls 2 fr.length]] [(0,0,zrI u),(1,0,zrB b),(2,0,zrI fr)] (.pv (iV (0))) 0 []
theorem qzY {u fr wh:List Int} {b:List Bool} {ev:List Ev} (hs6:qBh b fr u) (hpl:Fn 130 5 [agA u b fr ev wh] (qlj b ev fr u wh) (.pv (.bool false)) 0 []) :
 Fn 77 5 [agA u b fr ev wh] (qlj b ev fr u wh) (.pv (iV (8))) 0 []:=
 Fz [] [Cf hs6 [0,1,2],.k,Cf hpl [0,1,2,3,4],.k]
  tI (Co hs6 [0,1,2] 6 (Co hpl [0,1,2,3,4] 6 tI))
theorem qxg {u fr wh:List Int} {b:List Bool} {ev:List Ev} (hs6:qBh b fr u) (hpl:Fn 130 5 [agA u b fr ev wh] (qlj b ev fr u wh) (.pv (.bool true)) 0 []) (r0:Rl 5 5 77 0 76 6 ([(1,.pp 5 0),(3,.pv (iV ((0:Nat):Int)))]) (qda b ev fr u wh) (.ret) ([(2,.pv (iV 8))]) ([])) :
 Fn 77 5 [agA u b fr ev wh] (qlj b ev fr u wh) (.pv (iV (8))) 0 []:=
 Fz [] [Cf hs6 [0,1,2],.k,Cf hpl [0,1,2,3,4],.k,Lf r0]
  tI (Co hs6 [0,1,2] 6 (Co hpl [0,1,2,3,4] 6 (Lo r0 [] tI)))
theorem qw2 {u fr wh:List Int} {b:List Bool} {ev:List Ev} (hs6:qBh b fr u) (hpl:Fn 130 5 [agA u b fr ev wh] (qlj b ev fr u wh) (.pv (.bool true)) 0 []) (r0:Rl 5 5 77 0 76 6 ([(1,.pp 5 0),(3,.pv (iV ((0:Nat):Int)))]) (qda b ev fr u wh) (.exit 0) ([(1,.pp 5 0)]) (qda b ev fr u wh)) (r2:Rl 5 5 77 2 76 6 ([(1,.pp 5 0),(6,.pv (iV ((1:Nat):Int)))]) (qda b ev fr u wh) (.ret) ([(2,.pv (iV 8))]) ([])) :
 Fn 77 5 [agA u b fr ev wh] (qlj b ev fr u wh) (.pv (iV (8))) 0 []:=
 Fz [] [Cf hs6 [0,1,2],.k,Cf hpl [0,1,2,3,4],.k,Lf r0,Lf r2]
  tI (Co hs6 [0,1,2] 6 (Co hpl [0,1,2,3,4] 6 (Lo r0 [] (Lo r2 [] tI))))
theorem qAo {u fr wh:List Int} {b:List Bool} {ev:List Ev} (hs6:qBh b fr u) (hpl:Fn 130 5 [agA u b fr ev wh] (qlj b ev fr u wh) (.pv (.bool true)) 0 []) (r0:Rl 5 5 77 0 76 6 ([(1,.pp 5 0),(3,.pv (iV ((0:Nat):Int)))]) (qda b ev fr u wh) (.exit 0) ([(1,.pp 5 0)]) (qda b ev fr u wh)) (r2:Rl 5 5 77 2 76 6 ([(1,.pp 5 0),(6,.pv (iV ((1:Nat):Int)))]) (qda b ev fr u wh) (.exit 4) ([]) ([])) :
 Fn 77 5 [agA u b fr ev wh] (qlj b ev fr u wh) (.pv (iV (0))) 0 []:=
 Fz [] [Cf hs6 [0,1,2],.k,Cf hpl [0,1,2,3,4],.k,Lf r0,Lf r2]
  tI (Co hs6 [0,1,2] 6 (Co hpl [0,1,2,3,4] 6 (Lo r0 [] (Lo r2 [] tI))))
end Go.Proofs.YtkjaanhddkkodaaGreat
