/-
  Joined: Ye, Yf, Yg, Yh, Yi. Conditions: none.
-/
import Derived.Test.YtkjaanhddkkodaaGreatW33
import Derived.Test.YtkjaanhddkkodaaGreatW18
namespace Go.Proofs.YtkjaanhddkkodaaGreat
set_option maxRecDepth 100000
open Go.RowKit
theorem qpm {l:List Int} (h:l.Pairwise (fun x y=>x≤y)) (hd:∀ k x y,l[k]?=some x→l[k+1]?=some y→x≠y):l.Nodup:=by
 rw[List.nodup_iff_pairwise_ne,List.pairwise_iff_getElem]
 rw[List.pairwise_iff_getElem] at h
 intro i j hi hj hij e
 have h1:=h i (i+1)
 have hi1:i+1<l.length:=by omega
 have a1:=h i (i+1) hi hi1 (by omega)
 have a2:l[i+1]≤l[j]:=by
  rcases Nat.lt_or_ge (i+1) j with c | c
  ·exact h (i+1) j hi1 hj c
  ·have:j=i+1:=by omega
   subst this;exact Int.le_refl _
 have:=hd i l[i] l[i+1] (List.getElem?_eq_getElem hi) (List.getElem?_eq_getElem hi1)
 omega
theorem qkT {l:List Int} (h:l.Nodup) {k:Nat} {x y:Int} (hx:l[k]?=some x) (hy:l[k+1]?=some y):x≠y:=by
 intro e
 subst e
 have:=(List.getElem?_inj (i:=k) (j:=k+1) (List.getElem?_eq_some_iff.1 hx).1 h).1 (hx.trans hy.symm)
 omega
theorem qrF {l:List Int} (h:l.Pairwise (fun x y=>x≤y)) (hn:¬ l.Nodup):∃ k x,l[k]?=some x∧l[k+1]?=some x∧∀ j,j<k→∀ y z,l[j]?=some y→l[j+1]?=some z→z≠y:=by
 have hex:∃ k,∃ x,l[k]?=some x∧l[k+1]?=some x:=by
  apply Classical.byContradiction
  intro hne
  exact hn (qpm h fun k x y hx hy e=>hne ⟨k,x,hx,by rw[hy,e]⟩)
 have key:∀ n k,k≤n→(∃ x,l[k]?=some x∧l[k+1]?=some x)→∃ k x,l[k]?=some x∧l[k+1]?=some x∧∀ j,j<k→∀ y z,l[j]?=some y→l[j+1]?=some z→z≠y:=by
  intro n
  induction n with
  | zero=>
   intro k hk ⟨x,h1,h2⟩
   exact⟨k,x,h1,h2,fun j hj=>by omega⟩
  | succ n ih=>
   intro k hk ⟨x,h1,h2⟩
   by_cases hc:∃ j,j<k∧∃ x,l[j]?=some x∧l[j+1]?=some x
   ·obtain⟨j,hj,hx⟩:=hc
    exact ih j (by omega) hx
   ·exact⟨k,x,h1,h2,fun j hj y z hy hz e=>hc ⟨j,hj,y,hy,by rw[hz,e]⟩⟩
 obtain⟨k,hk⟩:=hex
 exact key k k (Nat.le_refl _) hk
section
variable {nn:Nat}
abbrev cmH (nn:Nat) (wv:List Int):List (Nat×Nat×SV):=[(1,0,.row 3 1 nn (ziV wv))]
theorem qvX {s:List Int} (hs:s.length=nn) (hl:nn≤1000000) (hd:s.Nodup):∀ (d k:Nat),k+1+d=nn→Rl 1 2 212 0 61 2 [(0,.ls 1 nn),(3,.pv (iV ((k+1:Nat):Int)))] (cmH nn s) (.exit 0) [(0,.ls 1 nn)] (cmH nn s):=by
 intro d
 induction d with
 | zero=>intro k hk;exact qAv (decide_eq_false (by omega))
 | succ d ih=>
  intro k hk
  have hx:s[k+1]?=some s[k+1]:=List.getElem?_eq_getElem (by omega)
  have hy:s[k]?=some s[k]:=List.getElem?_eq_getElem (by omega)
  have hne:=qkT hd hy hx
  exact qoB hx (by omega) hy (by omega) (decide_eq_true (by omega)) (by rw[show ((k+1:Nat):Int)-1=(k:Int) by omega];exact qbn (by omega) (by omega)) (by simpa using fun e=>hne e.symm) (qaC (by omega)) (ih (k+1) (by omega))
theorem qut {k:Nat} (hl:nn≤1000000):∀ (d j c:Nat) (wv:List Int),k+(j+1)+d=nn→wv.length=nn→c≤k+j→∃ c' wv',c'<nn∧wv'.length=nn∧Rl 1 2 212 1 61 2 [(0,.ls 1 nn),(3,.pv (iV (c:Int))),(4,.lq 1 1 (0+k) (nn-k)),(5,.pv (iV ((j+1:Nat):Int)))] (cmH nn wv) (.exit 2) [(0,.ls 1 nn),(3,.pv (iV (c':Int)))] (cmH nn wv'):=by
 intro d
 induction d with
 | zero=>intro j c wv hd hw hc;exact⟨c,wv,by omega,hw,qxJ (decide_eq_false (by omega))⟩
 | succ d ih=>
  intro j c wv hd hw hc
  have hx:wv[k+(j+1)]?=some wv[k+(j+1)]:=List.getElem?_eq_getElem (by omega)
  have hy:wv[k+j]?=some wv[k+j]:=List.getElem?_eq_getElem (by omega)
  have hm:iV (IntKind.i64.wrap (((j+1:Nat):Int)-1))=iV (j:Int):=by rw[show ((j+1:Nat):Int)-1=(j:Int) by omega];exact qbn (by omega) (by omega)
  by_cases e:wv[k+(j+1)]=wv[k+j]
  ·obtain⟨c',wv',h1,h2,r⟩:=ih (j+1) c wv (by omega) hw (by omega)
   exact⟨c',wv',h1,h2,quQ (by omega) (by omega) hx hy (decide_eq_true (by omega)) hm (by simpa using e) (qaC (by omega)) r⟩
  ·obtain⟨c',wv',h1,h2,r⟩:=ih (j+1) (c+1) (wv.set c wv[k+(j+1)]) (by omega) (by rw[List.length_set];exact hw) (by omega)
   exact⟨c',wv',h1,h2,qAJ (by omega) (by omega) hx hy (decide_eq_true (by omega)) hm (by simpa using e) (by omega) (by omega) (qaC (by omega)) (qaC (by omega)) r⟩
theorem qqX {s:List Int} (hs:s.length=nn) (hl:nn≤1000000) {k:Nat} {x:Int} (h1:s[k]?=some x) (h2:s[k+1]?=some x) (hb:∀ j,j<k→∀ y z,s[j]?=some y→s[j+1]?=some z→z≠y) :
 ∃ c ys,c<nn∧∀ (d q:Nat),q+d=k→Rl 1 2 212 0 61 2 [(0,.ls 1 nn),(3,.pv (iV ((q+1:Nat):Int)))] (cmH nn s) .ret [(2,.lq 1 1 0 c)] [(1,0,.row 3 1 nn ys)]:=by
 have hk1:k+1<nn:=by rw[← hs];exact (List.getElem?_eq_some_iff.1 h2).1
 obtain⟨c,wv,hc,hw,r⟩:=qut (nn:=nn) (k:=k+1) hl (nn-(k+1+1)) 0 (k+1) s (by omega) hs (by omega)
 refine⟨c,qdf (ziV wv) ((0+c)*1) (qc0 [iV 0] (nn-c)),hc,?_⟩
 have hrl:(qc0 [iV 0] (nn-c)).length=nn-c:=by rw[qe7];simp
 intro d
 induction d with
 | zero=>
  intro q hq
  have:q=k:=by omega
  subst this
  exact qxa h2 (by omega) h1 (by omega) (decide_eq_true (by omega)) (by rw[show ((q+1:Nat):Int)-1=(q:Int) by omega];exact qbn (by omega) (by omega)) (by simp) (by omega) r (by omega) rfl (by omega) (by rw[hrl,qaH];omega)
 | succ d ih=>
  intro q hq
  have hx:s[q+1]?=some s[q+1]:=List.getElem?_eq_getElem (by omega)
  have hy:s[q]?=some s[q]:=List.getElem?_eq_getElem (by omega)
  have hne:=hb q (by omega) _ _ hy hx
  exact qoB hx (by omega) hy (by omega) (decide_eq_true (by omega)) (by rw[show ((q+1:Nat):Int)-1=(q:Int) by omega];exact qbn (by omega) (by omega)) (by simpa using hne) (qaC (by omega)) (ih (q+1) (by omega))
end
def evB (x:Ev):Bool:=okB x.n x.d&&decide (0≤x.k∧x.k≤1000000)
theorem qnN {x:Ev} (hi:EvI x):evB x=true↔EvOk x:=by
 simp only[evB,Bool.and_eq_true,decide_eq_true_eq]
 exact⟨fun ⟨h1,h2,h3⟩=>⟨hi,h1,h2,h3⟩,fun h=>⟨h.ok,h.k0,h.k1⟩⟩
section
variable {ev:List Ev}
abbrev efT (ev:List Ev) (g:List Int) (k:Nat):List (Nat×SV):=[(0,.ls 0 ev.length),(3,.ls 1 g.length),(6,.ls 0 ev.length),(7,.pv (iV (ev.length:Int))),(8,.pv (iV (k:Int)))]
abbrev efH (ev:List Ev) (g:List Int):List (Nat×Nat×SV):=[(0,0,qao ev),(1,0,zrI g)]
theorem qnY (hl:ev.length≤999999) (h:∀ x∈ev,EvOk x):∀ (d k:Nat),k+d=ev.length→Rl 1 1 168 0 36 2 (efT ev ((ev.map (·.k)).take k) k) (efH ev ((ev.map (·.k)).take k)) (.exit 0) [(0,.ls 0 ev.length),(3,.ls 1 (ev.map (·.k)).length)] (efH ev (ev.map (·.k))):=by
 intro d
 induction d with
 | zero=>
  intro k hk
  rw[List.take_of_length_le (by rw[List.length_map];omega)]
  exact qAb (decide_eq_false (by omega))
 | succ d ih=>
  intro k hk
  have hx:ev[k]?=some ev[k]:=List.getElem?_eq_getElem (by omega)
  have ok:=h _ (List.getElem_mem (show k<ev.length by omega))
  have r:=ih (k+1) (by omega)
  rw[List.take_add_one,List.getElem?_map,hx] at r
  have hn:=qgk ev[k].k
  rw[decide_eq_true ⟨ok.k0,ok.k1⟩] at hn
  exact qm6 hx (by omega) (decide_eq_true (by omega)) (qcc ok.i.1 ok.i.2 ok.ok) hn (by rw[List.length_take];omega) (qaC (by omega)) r
theorem qpN (hl:ev.length≤999999) (hi:∀ x∈ev,EvI x):∀ (d k:Nat),k+d=ev.length→(∃ j x,k≤j∧ev[j]?=some x∧evB x=false)→Rl 1 1 168 0 36 2 (efT ev ((ev.map (·.k)).take k) k) (efH ev ((ev.map (·.k)).take k)) .ret [(2,.pv (.bool false))] []:=by
 intro d
 induction d with
 | zero=>intro k hk ⟨j,x,a,b,_⟩;have:=(List.getElem?_eq_some_iff.1 b).1;omega
 | succ d ih=>
  intro k hk ⟨j,x,a,b,c⟩
  have hx:ev[k]?=some ev[k]:=List.getElem?_eq_getElem (by omega)
  have oi:=hi _ (List.getElem_mem (show k<ev.length by omega))
  by_cases h1:okB ev[k].n ev[k].d=true
  ·have hc:=qcc oi.1 oi.2 h1
   by_cases h2:0≤ev[k].k∧ev[k].k≤1000000
   ·have hn:=qgk ev[k].k
    rw[decide_eq_true h2] at hn
    have r:=ih (k+1) (by omega) ⟨j,x,by
     rcases Nat.lt_or_ge k j with q | q
     ·exact q
     ·have e:k=j:=by omega
      subst e
      rw[hx] at b
      cases b
      simp[evB,h1,h2] at c,b,c⟩
    rw[List.take_add_one,List.getElem?_map,hx] at r
    exact qm6 hx (by omega) (decide_eq_true (by omega)) hc hn (by rw[List.length_take];omega) (qaC (by omega)) r
   ·have hn:=qgk ev[k].k
    rw[decide_eq_false h2] at hn
    exact qz2 hx (by omega) (decide_eq_true (by omega)) hc hn
  ·exact qz5 hx (by omega) (decide_eq_true (by omega)) (qe3 oi.1 oi.2 h1)
structure EvF (ev:List Ev):Prop where
 ok:∀ x∈ev,EvOk x
 nod:(ev.map (·.k)).Nodup
theorem qdF (hl:ev.length≤999999) (h:EvF ev):Fn 168 1 [.ls 0 ev.length] [(0,0,qao ev)] (.pv (.bool true)) 0 []:=by
 have r:=qnY hl h.ok ev.length 0 (by omega)
 rw[List.take_zero] at r
 have hlen:(ev.map (·.k)).length=ev.length:=List.length_map _
 have hso:=qh6 (ev.map (·.k)) (by omega)
 have hnd:(sortI (ev.map (·.k))).Nodup:=(qd9 _).nodup_iff.2 h.nod
 have hsl:=qcR (ev.map (·.k))
 by_cases h2:(ev.map (·.k)).length<2
 ·exact qiu r hso (decide_eq_true (by omega)) (by simp)
 ·exact qi4 r hso (decide_eq_false (by omega)) (qvX hsl (by omega) hnd ((ev.map (·.k)).length-1) 0 (by omega)) (by simp)
theorem qhN (hl:ev.length≤999999) (hi:∀ x∈ev,EvI x) (h:¬ EvF ev):Fn 168 1 [.ls 0 ev.length] [(0,0,qao ev)] (.pv (.bool false)) 0 []:=by
 have hlen:(ev.map (·.k)).length=ev.length:=List.length_map _
 by_cases h1:∀ x∈ev,EvOk x
 ·have r:=qnY hl h1 ev.length 0 (by omega)
  rw[List.take_zero] at r
  have hso:=qh6 (ev.map (·.k)) (by omega)
  have hnn:¬ (ev.map (·.k)).Nodup:=fun e=>h ⟨h1,e⟩
  have hnd:¬ (sortI (ev.map (·.k))).Nodup:=fun e=>hnn ((qd9 _).nodup_iff.1 e)
  have hsl:=qcR (ev.map (·.k))
  obtain⟨k,x,a1,a2,a3⟩:=qrF (qpW _) hnd
  have hk:k+1<(sortI (ev.map (·.k))).length:=(List.getElem?_eq_some_iff.1 a2).1
  obtain⟨c,ys,hc,hr⟩:=qqX hsl (by omega) a1 a2 a3
  exact qyV r hso (decide_eq_false (by omega)) (hr k 0 (by omega)) (by simp;omega)
 ·refine qCP ?_
  have r:=qpN hl hi ev.length 0 (by omega) (by
   simp only[Classical.not_forall] at h1
   obtain⟨x,hx,hn⟩:=h1
   obtain⟨j,hj⟩:=List.mem_iff_getElem?.1 hx
   exact⟨j,x,by omega,hj,by
    cases e:evB x with
    | false=>rfl
    | true=>exact (hn ((qnN (hi x hx)).1 e)).elim⟩)
  rw[List.take_zero] at r
  exact r
end
structure VA (u:List Int) (b:List Bool) (fr:List Int) (ev:List Ev) (wh:List Int):Prop where
 vd:Vd u b fr
 wf:WhF u b ev wh
 ef:EvF ev
 hp:∀ k,1≤k→k<ev.length→qbB ev k=true
section
variable {u fr wh:List Int} {b:List Bool} {ev:List Ev}
theorem VA.lens (h:VA u b fr ev wh):u.length≤200∧b.length=u.length∧wh.length=u.length∧ev.length≤200∧fr.length≤200∧1≤u.length:=by
 have h1:=h.vd.le
 have h2:=h.vd.len
 have h3:=h.wf.len
 have h4:=h.wf.cnt
 have h5:=List.count_le_length (a:=true) (l:=b)
 have h6:=h.vd.frlen
 have h7:=h.vd.pos
 omega
theorem qbJ (h:VA u b fr ev wh):Fn 115 5 [agA u b fr ev wh] (agP u b fr ev wh) (.pv (iV 0)) 0 []:=by
 have hl:=h.lens
 exact qxU (qbj h.vd) (qcs (by omega) (by omega) h.wf) (qdF (by omega) h.ef) (qk9 h.ef.ok (by omega) h.hp)
theorem qlW (hf:fr.length≤1000000) (he:ev.length≤999999) (hi:∀ x∈ev,EvI x) (h:¬ VA u b fr ev wh):Fn 115 5 [agA u b fr ev wh] (agP u b fr ev wh) (.pv (iV 8)) 0 []:=by
 by_cases h1:Vd u b fr
 ·have a1:=h1.le
  have a2:=h1.len
  by_cases h2:WhF u b ev wh
  ·by_cases h3:EvF ev
   ·refine qxK (qbj h1) (qcs (by omega) (by omega) h2) (qdF he h3) (qmY h3.ok (by omega) ?_)
    apply Classical.byContradiction
    intro hn
    exact h ⟨h1,h2,h3,fun k b1 b2=>by
     cases e:qbB ev k with
     | true=>rfl
     | false=>exact (hn ⟨k,b1,b2,e⟩).elim⟩
   ·exact qzP (qbj h1) (qcs (by omega) (by omega) h2) (qhN he hi h3)
  ·exact qyU (qbj h1) (qhZ (by omega) (by omega) h2)
 ·exact qzT (qkY hf h1)
end
end Go.Proofs.YtkjaanhddkkodaaGreat

namespace Go.Proofs.YtkjaanhddkkodaaGreat
set_option maxRecDepth 100000
open Go.RowKit
theorem qoK (n:Nat):SV.ls 2 (0+n)=(SV.ls 1 n).ren (qaK [(1,2)]):=by rw[Nat.zero_add];rfl
theorem qgF (e:TypeId) (es n:Nat) (xs:List Value):some (SV.row e es (0+n) ([]++xs))=some (SV.row e es n xs):=by rw[Nat.zero_add,List.nil_append]
theorem qrB {n:Nat} {xs:List Value} (h0:0<n) (hn:0+n≤1000000) :
 Fn 153 1 [.ls 0 n] [(0,0,.row 62 5 n xs)] (.ls 1 n) 1 [(1,0,.row 62 5 n xs)]:=
 Fx [(1,2)] [.t false]
  (qoK n) (Ai (qgF 62 5 n xs) tI) (Ai h0 (Ai hn tI))
theorem qDK {ad:Addr} {c:Nat} :
 Fn 153 0 [.pv (.slice (some ad) 0 c)] [] (.ls 0 0) 1 [(0,0,.row 62 5 0 [])]:=
 Fz [(0,1)] [.k]
  (qaG (qaK [(0,1)]) [(0,0,.row 62 5 0 [])]) (Ai (Nat.zero_le _:0+0≤1000000) tI)
theorem quv {c:Nat}:Pure Tryz.prog 153 #[.slice none 0 c] (.slice none 0 0):=
 qaA (args:=[.slice none 0 c]) 200 [] (Ai rfl tI) (by kernel_rfl)
theorem qm7 {l:List Bool} (h0:0<l.length) (hn:0+l.length≤1000000) :
 Fn 152 1 [.ls 0 l.length] [(0,0,zrB l)] (.ls 1 l.length) 1 [(1,0,zrB l)]:=
 Fx [(1,2)] [.t false]
  (qoK l.length) (Ai (qgF 4 1 l.length (zbV l)) tI) (Ai h0 (Ai hn tI))
theorem qxy {ad:Addr} {c:Nat} :
 Fn 152 0 [.pv (.slice (some ad) 0 c)] [] (.ls 0 0) 1 [(0,0,.row 4 1 0 [])]:=
 Fz [(0,1)] [.k]
  (qaG (qaK [(0,1)]) [(0,0,.row 4 1 0 [])]) (Ai (Nat.zero_le _:0+0≤1000000) tI)
theorem qph {c:Nat}:Pure Tryz.prog 152 #[.slice none 0 c] (.slice none 0 0):=
 qaA (args:=[.slice none 0 c]) 200 [] (Ai rfl tI) (by kernel_rfl)
theorem qxW (n:Nat):SV.ls 5 (0+n+1)=(SV.ls 3 (n+1)).ren (qaK [(3,5)]):=by rw[Nat.zero_add];rfl
theorem qqx (l:List Ev) (x:Ev):some (SV.row 62 5 (0+l.length+1) ([]++qaO l++ecV x))=some (SV.row 62 5 (l.length+1) (qaO (l++[x]))):=by rw[Nat.zero_add,List.nil_append,qdr];rfl
theorem qDL {z:Int} (h0:decide (z<0)=false) (hs:iV (IntKind.i64.wrap (z-0))=iV (z)) (hg:decide (z>0)=true) (a0:0≤z) (a1:z≤1000000) :
 Fn 244 0 [.pv (.slice none 0 0),.pv (iV (z))] [] (.ls 0 0) 1 [(0,0,.row 62 5 0 [])]:=
 Fz [(0,1)] [.t false,.k,Re hs,.t true,.w []]
  (qaG (qaK [(0,1)]) [(0,0,.row 62 5 0 [])]) (Ai h0 (Ai hs (Ai hg (Ai a0 (Ai a1 (Ai (Int.le_refl (0:Int)) (Ai (Nat.zero_le z.toNat) tI)))))))
abbrev qEx (ev:List Ev) (x:Ev):HpL:=[(2,0,.ls 0 ev.length),(2,1,.ps 1 0 1 1),(1,0,.pv (iV x.n)),(1,1,.pv (iV x.d)),(1,2,.pv (iV x.k)),(1,3,.pv (iV x.i)),(1,4,.pv (iV x.w)),(0,0,qao ev)]
theorem qFp {ev:List Ev} {x:Ev} (q1:iV (IntKind.i64.wrap ((0:Int)+(ev.length:Int)))=iV (ev.length:Int)) (n1:decide ((ev.length:Int)<0)=false) (q2:iV (IntKind.i64.wrap ((ev.length:Int)+1))=iV (((ev.length+1:Nat):Int))) (n2:decide (((ev.length+1:Nat):Int)<0)=false) (hgr:Fn 244 0 [.pv (.slice none 0 0),.pv (iV (((ev.length+1:Nat):Int)))] [] (.ls 0 0) 1 [(0,0,.row 62 5 0 [])]) (a1:0+ev.length≤1000000) (a2:0+ev.length+1≤1000000) :
 Fn 227 3 [.ps 2 0 2 2] (qEx ev x) (.ls 3 (ev.length+1)) 1 [(3,0,.row 62 5 (ev.length+1) (qaO (ev++[x])))]:=
 Fx [(3,5)] [.k,Re q1,.t false,.k,.k,Re q2,.t false,.k,.k,Cf hgr [],.k,.k,.k,.k,.k]
  (qxW ev.length) (Ai (qqx ev x) tI) (Ai q1 (Ai n1 (Ai q2 (Ai n2 (Co hgr [] 3 (Ai a1 (Ai a2 tI)))))))
abbrev qDt (b2:List Bool) (ev:List Ev) (f2:List Int) (mm:Nat) (n:Nat) (u2:List Int) (wh:List Int):HpL:=[(19,0,.ls 5 u2.length),(19,1,.ls 6 b2.length),(19,2,.ls 7 f2.length),(19,3,.ls 14 n),(19,4,.ls 15 mm),(16,0,.ls 5 u2.length),(16,1,.ls 6 b2.length),(16,2,.ls 7 f2.length),(16,3,.ls 14 n),(16,4,.ls 15 mm),(11,0,.pv (.slice none 0 0)),(11,1,.pv (.slice none 0 0)),(11,2,.pv (.slice none 0 0)),(11,3,.pv (.slice none 0 0)),(11,4,.pv (.slice none 0 0)),(14,0,.row 62 5 n (qaO (ev))),(15,0,.row 3 1 mm (ziV (wh)))]
theorem qlr {wh u2 f2:List Int} {b2:List Bool} {ev:List Ev} {x y:Ev} {k j n mm:Nat} (hin_x:0≤(k:Int)∧(k:Int)<(n:Int)) (he_x:ev[k]?=some x) (hin_y:0≤(j:Int)∧(j:Int)<(n:Int)) (he_y:ev[j]?=some y) (h0:decide ((k:Int)>0)=true) (hp:Pure Tryz.prog 214 #[iV (k:Int)] (iV (j:Int))) (hl:Pure Tryz.prog 213 #[qab x,qab y] (.bool true)) (hla:k<(ev).length) (hwb:0≤y.i∧y.i<(mm:Int)) (hwbl:y.i.toNat<(wh).length) (hlb:j<((ev).set k y).length) (hwa:0≤x.i∧x.i<(mm:Int)) (hwal:x.i.toNat<((wh).set y.i.toNat (k:Int)).length) {e:Exit} {tm2:TmL} {hp2:HpL}
 (r:Rl 8 19 222 0 29 20 ([(1,.pv (iV (j:Int))),(2,.pp 19 0)]) ([(19,0,.ls 5 u2.length),(19,1,.ls 6 b2.length),(19,2,.ls 7 f2.length),(19,3,.ls 14 n),(19,4,.ls 15 mm),(16,0,.ls 5 u2.length),(16,1,.ls 6 b2.length),(16,2,.ls 7 f2.length),(16,3,.ls 14 n),(16,4,.ls 15 mm),(11,0,.pv (.slice none 0 0)),(11,1,.pv (.slice none 0 0)),(11,2,.pv (.slice none 0 0)),(11,3,.pv (.slice none 0 0)),(11,4,.pv (.slice none 0 0)),(14,0,.row 62 5 n (qaO (((ev).set k y).set j x))),(15,0,.row 3 1 mm (ziV (((wh).set y.i.toNat (k:Int)).set x.i.toNat (j:Int))))]) e tm2 hp2):Rl 8 19 222 0 29 20 ([(1,.pv (iV (k:Int))),(2,.pp 19 0)]) (qDt b2 ev f2 mm n u2 wh) e tm2 hp2:=
 RunsL.next [] 300 [.t true,.r (qab x),Rf hp,.r (qab y),Rf hl,Rf hp,.k,.r (qab x),.r (qab y),.k,.w (qaO ((ev).set k y)),.w (ziV ((wh).set y.i.toNat (k:Int))),.k,.w (qaO (((ev).set k y).set j x)),.w (ziV (((wh).set y.i.toNat (k:Int)).set x.i.toNat (j:Int))),Rf hp]
  (Ro (Ai h0 (Ai hin_x (Ai (qbc he_x) (Ai hp (Ai hin_y (Ai (qbc he_y) (Ai hl (Ai hp (Ai hin_x (Ai (qbc he_x) (Ai hin_y (Ai (qbc he_y) (Ai hin_x (Ai (qkG (ev) k y hla) (Ai (qey (ev) k hla) (Ai hwb (Ai (qh7 (wh) y.i.toNat (k:Int) hwbl) (Ai (qbC (wh) y.i.toNat hwbl) (Ai hin_y (Ai (qkG ((ev).set k y) j x hlb) (Ai (qey ((ev).set k y) j hlb) (Ai hwa (Ai (qh7 ((wh).set y.i.toNat (k:Int)) x.i.toNat (j:Int) hwal) (Ai (qbC ((wh).set y.i.toNat (k:Int)) x.i.toNat hwal) (Ai hp tI)))))))))))))))))))))))))) r
abbrev qEu (b2:List Bool) (ev:List Ev) (f2:List Int) (mm:Nat) (n:Nat) (u2:List Int) (wh:List Int):HpL:=[(16,0,.ls 5 u2.length),(16,1,.ls 6 b2.length),(16,2,.ls 7 f2.length),(16,3,.ls 14 n),(16,4,.ls 15 mm),(11,0,.pv (.slice none 0 0)),(11,1,.pv (.slice none 0 0)),(11,2,.pv (.slice none 0 0)),(11,3,.pv (.slice none 0 0)),(11,4,.pv (.slice none 0 0)),(14,0,.row 62 5 n (qaO (ev))),(15,0,.row 3 1 mm (ziV (wh)))]
theorem qlo {wh u2 f2:List Int} {b2:List Bool} {ev:List Ev} {x y:Ev} {k j n mm:Nat} (hin_x:0≤(k:Int)∧(k:Int)<(n:Int)) (he_x:ev[k]?=some x) (hin_y:0≤(j:Int)∧(j:Int)<(n:Int)) (he_y:ev[j]?=some y) (h0:decide ((k:Int)>0)=true) (hp:Pure Tryz.prog 214 #[iV (k:Int)] (iV (j:Int))) (hl:Pure Tryz.prog 213 #[qab x,qab y] (.bool false)):Rl 8 19 222 0 29 20 ([(1,.pv (iV (k:Int))),(2,.pp 19 0)]) (qDt b2 ev f2 mm n u2 wh) (.exit 0) ([(1,.pv (iV (k:Int)))]) (qEu b2 ev f2 mm n u2 wh):=
 RunsL.stop [] 300 [.t true,.r (qab x),Rf hp,.r (qab y),Rf hl] (fun h=>by cases h)
  (Ro (Ai h0 (Ai hin_x (Ai (qbc he_x) (Ai hp (Ai hin_y (Ai (qbc he_y) (Ai hl tI))))))))
theorem qkX {wh u2 f2:List Int} {b2:List Bool} {ev:List Ev} {k n mm:Nat} (h0:decide ((k:Int)>0)=false):Rl 8 19 222 0 29 20 ([(1,.pv (iV (k:Int))),(2,.pp 19 0)]) (qDt b2 ev f2 mm n u2 wh) (.exit 0) ([(1,.pv (iV (k:Int)))]) (qEu b2 ev f2 mm n u2 wh):=
 RunsL.stop [] 300 [.t false] (fun h=>by cases h)
  (Ro (Ai h0 tI))
theorem qtw {u fr wh u2 f2 wh3:List Int} {b b2:List Bool} {ev ev3:List Ev} {x:Ev} {k n p:Nat} (hcat:Fn 227 3 [.ps 2 0 2 2] (qEx ev x) (.ls 3 (ev.length+1)) 1 [(3,0,.row 62 5 (ev.length+1) (qaO (ev++[x])))]) (hcl:Fn 151 1 [.ls 0 wh.length] [(0,0,zrI wh)] (.ls 1 wh.length) 1 [(1,0,zrI wh)]) (hin:0≤(ev.length:Int)∧(ev.length:Int)<((ev.length+1:Nat):Int)) (hset:ev.length<(ev++[x]).length) (hwi:0≤x.i∧x.i<(wh.length:Int)) (hwset:x.i.toNat<wh.length) (r0:Rl 8 19 222 0 29 20 ([(1,.pv (iV (ev.length:Int))),(2,.pp 19 0)]) ([(19,0,.ls 5 u2.length),(19,1,.ls 6 b2.length),(19,2,.ls 7 f2.length),(19,3,.ls 14 (ev.length+1)),(19,4,.ls 15 wh.length),(16,0,.ls 5 u2.length),(16,1,.ls 6 b2.length),(16,2,.ls 7 f2.length),(16,3,.ls 14 (ev.length+1)),(16,4,.ls 15 wh.length),(11,0,.pv (.slice none 0 0)),(11,1,.pv (.slice none 0 0)),(11,2,.pv (.slice none 0 0)),(11,3,.pv (.slice none 0 0)),(11,4,.pv (.slice none 0 0)),(14,0,.row 62 5 (ev.length+1) (qaO ((ev++[x]).set ev.length x))),(15,0,.row 3 1 wh.length (ziV (wh.set x.i.toNat (ev.length:Int))))]) (.exit 0) ([(1,.pv (iV (p:Int)))]) ([(16,0,.ls 5 u2.length),(16,1,.ls 6 b2.length),(16,2,.ls 7 f2.length),(16,3,.ls 14 (ev.length+1)),(16,4,.ls 15 wh.length),(11,0,.pv (.slice none 0 0)),(11,1,.pv (.slice none 0 0)),(11,2,.pv (.slice none 0 0)),(11,3,.pv (.slice none 0 0)),(11,4,.pv (.slice none 0 0)),(14,0,.row 62 5 (ev.length+1) (qaO (ev3))),(15,0,.row 3 1 wh.length (ziV (wh3)))])) :
 Fn 201 8 [agA u b fr ev wh,.ag [.ls 5 u2.length,.ls 6 b2.length,.ls 7 f2.length],.pv (qab x)] [(0,0,zrI u),(1,0,zrB b),(2,0,zrI fr),(3,0,qao ev),(4,0,zrI wh),(5,0,zrI u2),(6,0,zrB b2),(7,0,zrI f2)] (.ag [.ls 5 u2.length,.ls 6 b2.length,.ls 7 f2.length,.ls 8 (ev.length+1),.ls 9 wh.length]) 2 [(8,0,.row 62 5 (ev.length+1) (qaO (ev3))),(9,0,.row 3 1 wh.length (ziV (wh3)))]:=
 Fz [(8,14),(9,15)] [.md,Cf hcat [3,12,13],Cf hcl [4],.k,.w (qaO ((ev++[x]).set ev.length x)),.w (ziV ((wh).set x.i.toNat (ev.length:Int))),.k,Lf r0]
  (qaG (qaK [(8,14),(9,15)]) [(8,0,.row 62 5 (ev.length+1) (qaO (ev3))),(9,0,.row 3 1 wh.length (ziV (wh3)))]) (Co hcat [3,12,13] 14 (Co hcl [4] 15 (Ai hin (Ai (qkG (ev++[x]) ev.length x hset) (Ai (qey (ev++[x]) ev.length hset) (Ai hwi (Ai (qh7 (wh) x.i.toNat (ev.length:Int) hwset) (Ai (qbC (wh) x.i.toNat hwset) (Lo r0 [] tI)))))))))
end Go.Proofs.YtkjaanhddkkodaaGreat

namespace Go.Proofs.YtkjaanhddkkodaaGreat
set_option maxRecDepth 100000
open Go.RowKit
abbrev qDm (wh:List Int):Prop:=Fn 151 1 [.ls 0 wh.length] [(0,0,zrI wh)] (.ls 1 wh.length) 1 [(1,0,zrI wh)]
abbrev qzk (b:List Bool) (ev:List Ev) (fr:List Int) (u:List Int) (wh:List Int):HpL:=[(0,0,zrI u),(1,0,zrB b),(2,0,zrI fr),(3,0,qao ev),(4,0,zrI wh)]
abbrev qyW (b:List Bool) (b2:List Bool) (f2:List Int) (fr:List Int) (u:List Int) (u2:List Int) (x:Ev):Prop:=Fn 229 3 [.ag [.ls 0 u.length,.ls 1 b.length,.ls 2 fr.length],.pv (qaL x.i x.w)] [(0,0,zrI u),(1,0,zrB b),(2,0,zrI fr)] (.tu [.ag [.ls 3 u2.length,.ls 4 b2.length,.ls 5 f2.length],.one (.pv (iV 0))]) 3 [(3,0,zrI u2),(4,0,zrB b2),(5,0,zrI f2)]
theorem qtH {u fr wh u2 f2:List Int} {b b2:List Bool} {ev:List Ev} {x:Ev} {k la:Nat} (hik:0≤(k:Int)∧(k:Int)<(ev.length:Int)) (hx:ev[k]?=some x) (hla:iV (IntKind.i64.wrap ((ev.length:Int)-1))=iV (la:Int)) (hg:qyW b b2 f2 fr u u2 x) (hll:la≤ev.length) (hce:Fn 153 1 [.lq 0 5 0 la] [(0,0,qao ev)] (.ls 1 la) 1 [(1,0,.row 62 5 la (qaO (ev.take la)))]) (hcw:qDm wh) (hwi:0≤x.i∧x.i<(wh.length:Int)) (hwset:x.i.toNat<wh.length) (hlt:decide ((k:Int)<(la:Int))=false) :
 Fn 204 5 [agA u b fr ev wh,.pv (iV (k:Int))] (qzk b ev fr u wh) (.ag [.ls 5 u2.length,.ls 6 b2.length,.ls 7 f2.length,.ls 8 la,.ls 9 wh.length]) 5 [(5,0,zrI u2),(6,0,zrB b2),(7,0,zrI f2),(8,0,.row 62 5 la (qaO (ev.take la))),(9,0,.row 3 1 wh.length (ziV (wh.set x.i.toNat (-1))))]:=
 Fz [(5,8),(6,9),(7,10),(8,12),(9,13)] [.md,.r (qaL x.i x.w),Re hla,Cf hg [0,1,2],.md,.k,Cf hce [3],Cf hcw [4],.w (ziV (wh.set x.i.toNat (-1))),.t false]
  (qaG (qaK [(5,8),(6,9),(7,10),(8,12),(9,13)]) [(5,0,zrI u2),(6,0,zrB b2),(7,0,zrI f2),(8,0,.row 62 5 la (qaO (ev.take la))),(9,0,.row 3 1 wh.length (ziV (wh.set x.i.toNat (-1))))]) (Ai hik (Ai (qwB hx) (Ai hla (Co hg [0,1,2] 8 (Ai tI (Ai (Int.natCast_nonneg la) (Ai (Nat.zero_le la) (Ai hll (Co hce [3] 12 (Co hcw [4] 13 (Ai hwi (Ai (qh7 wh x.i.toNat (-1) hwset) (Ai (qbC wh x.i.toNat hwset) (Ai hlt tI))))))))))))))
abbrev qDX (b2:List Bool) (ev:List Ev) (f2:List Int) (mm:Nat) (n:Nat) (u2:List Int) (wh:List Int):HpL:=[(18,0,.ls 8 u2.length),(18,1,.ls 9 b2.length),(18,2,.ls 10 f2.length),(18,3,.ls 12 n),(18,4,.ls 13 mm),(14,0,.ls 8 u2.length),(14,1,.ls 9 b2.length),(14,2,.ls 10 f2.length),(14,3,.ls 12 n),(14,4,.ls 13 mm),(6,0,.pv (.slice none 0 0)),(6,1,.pv (.slice none 0 0)),(6,2,.pv (.slice none 0 0)),(6,3,.pv (.slice none 0 0)),(6,4,.pv (.slice none 0 0)),(17,0,.ls 8 u2.length),(17,1,.ls 9 b2.length),(17,2,.ls 10 f2.length),(17,3,.ls 12 n),(17,4,.ls 13 mm),(8,0,zrI u2),(9,0,zrB b2),(10,0,zrI f2),(12,0,.row 62 5 n (qaO (ev))),(13,0,.row 3 1 mm (ziV (wh)))]
abbrev qqQ (j:Nat) (k:Nat):Prop:=Pure Tryz.prog 214 #[iV (k:Int)] (iV (j:Int))
abbrev qqR (k:Nat):TmL:=[(1,.pv (iV (k:Int))),(2,.pp 18 0)]
theorem qkN {wh u2 f2:List Int} {b2:List Bool} {ev:List Ev} {x y:Ev} {k j n mm:Nat} (hin_x:0≤(k:Int)∧(k:Int)<(n:Int)) (he_x:ev[k]?=some x) (hin_y:0≤(j:Int)∧(j:Int)<(n:Int)) (he_y:ev[j]?=some y) (h0:decide ((k:Int)>0)=true) (hp:qqQ j k) (hl:Pure Tryz.prog 213 #[qab x,qab y] (.bool true)) (hla:k<(ev).length) (hwb:0≤y.i∧y.i<(mm:Int)) (hwbl:y.i.toNat<(wh).length) (hlb:j<((ev).set k y).length) (hwa:0≤x.i∧x.i<(mm:Int)) (hwal:x.i.toNat<((wh).set y.i.toNat (k:Int)).length) {e:Exit} {tm2:TmL} {hp2:HpL}
 (r:Rl 5 18 222 0 29 19 ([(1,.pv (iV (j:Int))),(2,.pp 18 0)]) ([(18,0,.ls 8 u2.length),(18,1,.ls 9 b2.length),(18,2,.ls 10 f2.length),(18,3,.ls 12 n),(18,4,.ls 13 mm),(14,0,.ls 8 u2.length),(14,1,.ls 9 b2.length),(14,2,.ls 10 f2.length),(14,3,.ls 12 n),(14,4,.ls 13 mm),(6,0,.pv (.slice none 0 0)),(6,1,.pv (.slice none 0 0)),(6,2,.pv (.slice none 0 0)),(6,3,.pv (.slice none 0 0)),(6,4,.pv (.slice none 0 0)),(17,0,.ls 8 u2.length),(17,1,.ls 9 b2.length),(17,2,.ls 10 f2.length),(17,3,.ls 12 n),(17,4,.ls 13 mm),(8,0,zrI u2),(9,0,zrB b2),(10,0,zrI f2),(12,0,.row 62 5 n (qaO (((ev).set k y).set j x))),(13,0,.row 3 1 mm (ziV (((wh).set y.i.toNat (k:Int)).set x.i.toNat (j:Int))))]) e tm2 hp2):Rl 5 18 222 0 29 19 (qqR k) (qDX b2 ev f2 mm n u2 wh) e tm2 hp2:=
 RunsL.next [] 300 [.t true,.r (qab x),Rf hp,.r (qab y),Rf hl,Rf hp,.k,.r (qab x),.r (qab y),.k,.w (qaO ((ev).set k y)),.w (ziV ((wh).set y.i.toNat (k:Int))),.k,.w (qaO (((ev).set k y).set j x)),.w (ziV (((wh).set y.i.toNat (k:Int)).set x.i.toNat (j:Int))),Rf hp]
  (Ro (Ai h0 (Ai hin_x (Ai (qbc he_x) (Ai hp (Ai hin_y (Ai (qbc he_y) (Ai hl (Ai hp (Ai hin_x (Ai (qbc he_x) (Ai hin_y (Ai (qbc he_y) (Ai hin_x (Ai (qkG (ev) k y hla) (Ai (qey (ev) k hla) (Ai hwb (Ai (qh7 (wh) y.i.toNat (k:Int) hwbl) (Ai (qbC (wh) y.i.toNat hwbl) (Ai hin_y (Ai (qkG ((ev).set k y) j x hlb) (Ai (qey ((ev).set k y) j hlb) (Ai hwa (Ai (qh7 ((wh).set y.i.toNat (k:Int)) x.i.toNat (j:Int) hwal) (Ai (qbC ((wh).set y.i.toNat (k:Int)) x.i.toNat hwal) (Ai hp tI)))))))))))))))))))))))))) r
abbrev qEm (b2:List Bool) (ev:List Ev) (f2:List Int) (mm:Nat) (n:Nat) (u2:List Int) (wh:List Int):HpL:=[(14,0,.ls 8 u2.length),(14,1,.ls 9 b2.length),(14,2,.ls 10 f2.length),(14,3,.ls 12 n),(14,4,.ls 13 mm),(6,0,.pv (.slice none 0 0)),(6,1,.pv (.slice none 0 0)),(6,2,.pv (.slice none 0 0)),(6,3,.pv (.slice none 0 0)),(6,4,.pv (.slice none 0 0)),(17,0,.ls 8 u2.length),(17,1,.ls 9 b2.length),(17,2,.ls 10 f2.length),(17,3,.ls 12 n),(17,4,.ls 13 mm),(8,0,zrI u2),(9,0,zrB b2),(10,0,zrI f2),(12,0,.row 62 5 n (qaO (ev))),(13,0,.row 3 1 mm (ziV (wh)))]
theorem qk5 {wh u2 f2:List Int} {b2:List Bool} {ev:List Ev} {x y:Ev} {k j n mm:Nat} (hin_x:0≤(k:Int)∧(k:Int)<(n:Int)) (he_x:ev[k]?=some x) (hin_y:0≤(j:Int)∧(j:Int)<(n:Int)) (he_y:ev[j]?=some y) (h0:decide ((k:Int)>0)=true) (hp:qqQ j k) (hl:Pure Tryz.prog 213 #[qab x,qab y] (.bool false)):Rl 5 18 222 0 29 19 (qqR k) (qDX b2 ev f2 mm n u2 wh) (.exit 0) ([(1,.pv (iV (k:Int)))]) (qEm b2 ev f2 mm n u2 wh):=
 RunsL.stop [] 300 [.t true,.r (qab x),Rf hp,.r (qab y),Rf hl] (fun h=>by cases h)
  (Ro (Ai h0 (Ai hin_x (Ai (qbc he_x) (Ai hp (Ai hin_y (Ai (qbc he_y) (Ai hl tI))))))))
theorem qkS {wh u2 f2:List Int} {b2:List Bool} {ev:List Ev} {k n mm:Nat} (h0:decide ((k:Int)>0)=false):Rl 5 18 222 0 29 19 (qqR k) (qDX b2 ev f2 mm n u2 wh) (.exit 0) ([(1,.pv (iV (k:Int)))]) (qEm b2 ev f2 mm n u2 wh):=
 RunsL.stop [] 300 [.t false] (fun h=>by cases h)
  (Ro (Ai h0 tI))
abbrev qEG (b2:List Bool) (ev:List Ev) (f2:List Int) (mm:Nat) (n:Nat) (u2:List Int) (wh:List Int):HpL:=[(19,0,.ls 8 u2.length),(19,1,.ls 9 b2.length),(19,2,.ls 10 f2.length),(19,3,.ls 12 n),(19,4,.ls 13 mm),(14,0,.ls 8 u2.length),(14,1,.ls 9 b2.length),(14,2,.ls 10 f2.length),(14,3,.ls 12 n),(14,4,.ls 13 mm),(6,0,.pv (.slice none 0 0)),(6,1,.pv (.slice none 0 0)),(6,2,.pv (.slice none 0 0)),(6,3,.pv (.slice none 0 0)),(6,4,.pv (.slice none 0 0)),(17,0,.ls 8 u2.length),(17,1,.ls 9 b2.length),(17,2,.ls 10 f2.length),(17,3,.ls 12 n),(17,4,.ls 13 mm),(8,0,zrI u2),(9,0,zrB b2),(10,0,zrI f2),(12,0,.row 62 5 n (qaO (ev))),(13,0,.row 3 1 mm (ziV (wh)))]
abbrev qBL (ev:List Ev) (k:Nat) (l:Nat) (n:Nat):Prop:=Fn 239 1 [.ls 0 n,.pv (iV (k:Int))] [(0,0,.row 62 5 n (qaO (ev)))] (.pv (iV (l:Int))) 0 []
theorem qkV {wh u2 f2:List Int} {b2:List Bool} {ev:List Ev} {x y:Ev} {k n mm l:Nat} (hle:qBL ev k l n) (hq:((l:Int)==(k:Int))=false) (hin_x:0≤(k:Int)∧(k:Int)<(n:Int)) (he_x:ev[k]?=some x) (hin_y:0≤(l:Int)∧(l:Int)<(n:Int)) (he_y:ev[l]?=some y) (hla:k<(ev).length) (hwb:0≤y.i∧y.i<(mm:Int)) (hwbl:y.i.toNat<(wh).length) (hlb:l<((ev).set k y).length) (hwa:0≤x.i∧x.i<(mm:Int)) (hwal:x.i.toNat<((wh).set y.i.toNat (k:Int)).length) {e:Exit} {tm2:TmL} {hp2:HpL}
 (r:Rl 5 19 221 0 17 20 ([(1,.pv (iV (l:Int))),(2,.pp 19 0)]) ([(19,0,.ls 8 u2.length),(19,1,.ls 9 b2.length),(19,2,.ls 10 f2.length),(19,3,.ls 12 n),(19,4,.ls 13 mm),(14,0,.ls 8 u2.length),(14,1,.ls 9 b2.length),(14,2,.ls 10 f2.length),(14,3,.ls 12 n),(14,4,.ls 13 mm),(6,0,.pv (.slice none 0 0)),(6,1,.pv (.slice none 0 0)),(6,2,.pv (.slice none 0 0)),(6,3,.pv (.slice none 0 0)),(6,4,.pv (.slice none 0 0)),(17,0,.ls 8 u2.length),(17,1,.ls 9 b2.length),(17,2,.ls 10 f2.length),(17,3,.ls 12 n),(17,4,.ls 13 mm),(8,0,zrI u2),(9,0,zrB b2),(10,0,zrI f2),(12,0,.row 62 5 n (qaO (((ev).set k y).set l x))),(13,0,.row 3 1 mm (ziV (((wh).set y.i.toNat (k:Int)).set x.i.toNat (l:Int))))]) e tm2 hp2):Rl 5 19 221 0 17 20 ([(1,.pv (iV (k:Int))),(2,.pp 19 0)]) (qEG b2 ev f2 mm n u2 wh) e tm2 hp2:=
 RunsL.next [] 300 [Cf hle [12],.t false,.k,.r (qab x),.r (qab y),.k,.w (qaO ((ev).set k y)),.w (ziV ((wh).set y.i.toNat (k:Int))),.k,.w (qaO (((ev).set k y).set l x)),.w (ziV (((wh).set y.i.toNat (k:Int)).set x.i.toNat (l:Int)))]
  (Ro (Co hle [12] 20 (Ai hq (Ai hin_x (Ai (qbc he_x) (Ai hin_y (Ai (qbc he_y) (Ai hin_x (Ai (qkG (ev) k y hla) (Ai (qey (ev) k hla) (Ai hwb (Ai (qh7 (wh) y.i.toNat (k:Int) hwbl) (Ai (qbC (wh) y.i.toNat hwbl) (Ai hin_y (Ai (qkG ((ev).set k y) l x hlb) (Ai (qey ((ev).set k y) l hlb) (Ai hwa (Ai (qh7 ((wh).set y.i.toNat (k:Int)) x.i.toNat (l:Int) hwal) (Ai (qbC ((wh).set y.i.toNat (k:Int)) x.i.toNat hwal) tI))))))))))))))))))) r
theorem qlB {wh u2 f2:List Int} {b2:List Bool} {ev:List Ev} {k n mm l:Nat} (hle:qBL ev k l n) (hq:((l:Int)==(k:Int))=true):Rl 5 19 221 0 17 20 ([(1,.pv (iV (k:Int))),(2,.pp 19 0)]) (qEG b2 ev f2 mm n u2 wh) (.ret) ([]) (qEm b2 ev f2 mm n u2 wh):=
 RunsL.stop [] 300 [Cf hle [12],.t true] (fun h=>by cases h)
  (Ro (Co hle [12] 20 (Ai hq tI)))
theorem qzw {u fr wh u2 f2 wh3 wh4:List Int} {b b2:List Bool} {ev ev3 ev4:List Ev} {x xl:Ev} {k p la:Nat} (hik:0≤(k:Int)∧(k:Int)<(ev.length:Int)) (hx:ev[k]?=some x) (hla:iV (IntKind.i64.wrap ((ev.length:Int)-1))=iV (la:Int)) (hg:qyW b b2 f2 fr u u2 x) (hll:la≤ev.length) (hce:Fn 153 1 [.lq 0 5 0 la] [(0,0,qao ev)] (.ls 1 la) 1 [(1,0,.row 62 5 la (qaO (ev.take la)))]) (hcw:qDm wh) (hwi:0≤x.i∧x.i<(wh.length:Int)) (hwset:x.i.toNat<wh.length) (hlt:decide ((k:Int)<(la:Int))=true) (hil:0≤(la:Int)∧(la:Int)<(ev.length:Int)) (hxl:ev[la]?=some xl) (hkl:0≤(k:Int)∧(k:Int)<(la:Int)) (hset:k<(ev.take la).length) (hwl:0≤xl.i∧xl.i<(wh.length:Int)) (hwls:xl.i.toNat<(wh.set x.i.toNat (-1)).length) (r0:Rl 5 18 222 0 29 19 (qqR k) ([(18,0,.ls 8 u2.length),(18,1,.ls 9 b2.length),(18,2,.ls 10 f2.length),(18,3,.ls 12 la),(18,4,.ls 13 wh.length),(14,0,.ls 8 u2.length),(14,1,.ls 9 b2.length),(14,2,.ls 10 f2.length),(14,3,.ls 12 la),(14,4,.ls 13 wh.length),(6,0,.pv (.slice none 0 0)),(6,1,.pv (.slice none 0 0)),(6,2,.pv (.slice none 0 0)),(6,3,.pv (.slice none 0 0)),(6,4,.pv (.slice none 0 0)),(17,0,.ls 8 u2.length),(17,1,.ls 9 b2.length),(17,2,.ls 10 f2.length),(17,3,.ls 12 la),(17,4,.ls 13 wh.length),(8,0,zrI u2),(9,0,zrB b2),(10,0,zrI f2),(12,0,.row 62 5 la (qaO ((ev.take la).set k xl))),(13,0,.row 3 1 wh.length (ziV ((wh.set x.i.toNat (-1)).set xl.i.toNat (k:Int))))]) (.exit 0) ([(1,.pv (iV (p:Int)))]) ([(14,0,.ls 8 u2.length),(14,1,.ls 9 b2.length),(14,2,.ls 10 f2.length),(14,3,.ls 12 la),(14,4,.ls 13 wh.length),(6,0,.pv (.slice none 0 0)),(6,1,.pv (.slice none 0 0)),(6,2,.pv (.slice none 0 0)),(6,3,.pv (.slice none 0 0)),(6,4,.pv (.slice none 0 0)),(17,0,.ls 8 u2.length),(17,1,.ls 9 b2.length),(17,2,.ls 10 f2.length),(17,3,.ls 12 la),(17,4,.ls 13 wh.length),(8,0,zrI u2),(9,0,zrB b2),(10,0,zrI f2),(12,0,.row 62 5 la (qaO (ev3))),(13,0,.row 3 1 wh.length (ziV (wh3)))])) (r1:Rl 5 19 221 0 17 20 ([(1,.pv (iV (p:Int))),(2,.pp 19 0)]) ([(19,0,.ls 8 u2.length),(19,1,.ls 9 b2.length),(19,2,.ls 10 f2.length),(19,3,.ls 12 la),(19,4,.ls 13 wh.length),(14,0,.ls 8 u2.length),(14,1,.ls 9 b2.length),(14,2,.ls 10 f2.length),(14,3,.ls 12 la),(14,4,.ls 13 wh.length),(6,0,.pv (.slice none 0 0)),(6,1,.pv (.slice none 0 0)),(6,2,.pv (.slice none 0 0)),(6,3,.pv (.slice none 0 0)),(6,4,.pv (.slice none 0 0)),(17,0,.ls 8 u2.length),(17,1,.ls 9 b2.length),(17,2,.ls 10 f2.length),(17,3,.ls 12 la),(17,4,.ls 13 wh.length),(8,0,zrI u2),(9,0,zrB b2),(10,0,zrI f2),(12,0,.row 62 5 la (qaO (ev3))),(13,0,.row 3 1 wh.length (ziV (wh3)))]) (.ret) ([]) ([(14,0,.ls 8 u2.length),(14,1,.ls 9 b2.length),(14,2,.ls 10 f2.length),(14,3,.ls 12 la),(14,4,.ls 13 wh.length),(6,0,.pv (.slice none 0 0)),(6,1,.pv (.slice none 0 0)),(6,2,.pv (.slice none 0 0)),(6,3,.pv (.slice none 0 0)),(6,4,.pv (.slice none 0 0)),(17,0,.ls 8 u2.length),(17,1,.ls 9 b2.length),(17,2,.ls 10 f2.length),(17,3,.ls 12 la),(17,4,.ls 13 wh.length),(8,0,zrI u2),(9,0,zrB b2),(10,0,zrI f2),(12,0,.row 62 5 la (qaO (ev4))),(13,0,.row 3 1 wh.length (ziV (wh4)))])) :
 Fn 204 5 [agA u b fr ev wh,.pv (iV (k:Int))] (qzk b ev fr u wh) (.ag [.ls 5 u2.length,.ls 6 b2.length,.ls 7 f2.length,.ls 8 la,.ls 9 wh.length]) 5 [(5,0,zrI u2),(6,0,zrB b2),(7,0,zrI f2),(8,0,.row 62 5 la (qaO (ev4))),(9,0,.row 3 1 wh.length (ziV (wh4)))]:=
 Fz [(5,8),(6,9),(7,10),(8,12),(9,13)] [.md,.r (qaL x.i x.w),Re hla,Cf hg [0,1,2],.md,.k,Cf hce [3],Cf hcw [4],.w (ziV (wh.set x.i.toNat (-1))),.t true,.r (qab xl),.k,.w (qaO ((ev.take la).set k xl)),.w (ziV ((wh.set x.i.toNat (-1)).set xl.i.toNat (k:Int))),.k,.gh [(17,0),(17,1),(17,2),(17,3),(17,4)],.k,Lf r0,.k,Lf r1]
  (qaG (qaK [(5,8),(6,9),(7,10),(8,12),(9,13)]) [(5,0,zrI u2),(6,0,zrB b2),(7,0,zrI f2),(8,0,.row 62 5 la (qaO (ev4))),(9,0,.row 3 1 wh.length (ziV (wh4)))]) (Ai hik (Ai (qwB hx) (Ai hla (Co hg [0,1,2] 8 (Ai tI (Ai (Int.natCast_nonneg la) (Ai (Nat.zero_le la) (Ai hll (Co hce [3] 12 (Co hcw [4] 13 (Ai hwi (Ai (qh7 wh x.i.toNat (-1) hwset) (Ai (qbC wh x.i.toNat hwset) (Ai hlt (Ai hil (Ai (qbc hxl) (Ai hkl (Ai (qkG (ev.take la) k xl hset) (Ai (qey (ev.take la) k hset) (Ai hwl (Ai (qh7 (wh.set x.i.toNat (-1)) xl.i.toNat (k:Int) hwls) (Ai (qbC (wh.set x.i.toNat (-1)) xl.i.toNat hwls) (Ai (Er (SV.ls 8 u2.length)) (Ai (Er (SV.ls 9 b2.length)) (Ai (Er (SV.ls 10 f2.length)) (Ai (Er (SV.ls 12 la)) (Ai (Er (SV.ls 13 wh.length)) (Lo r0 [] (Ai (Er (SV.ls 8 u2.length)) (Ai (Er (SV.ls 9 b2.length)) (Ai (Er (SV.ls 10 f2.length)) (Ai (Er (SV.ls 12 la)) (Ai (Er (SV.ls 13 wh.length)) (Lo r1 [] (Ai (Er (SV.ls 8 u2.length)) (Ai (Er (SV.ls 9 b2.length)) (Ai (Er (SV.ls 10 f2.length)) (Ai (Er (SV.ls 12 la)) (Ai (Er (SV.ls 13 wh.length)) tI)))))))))))))))))))))))))))))))))))))))
theorem qqP {u fr wh:List Int} {b:List Bool} {ev:List Ev} (c0:Fn 151 1 [.ls 0 u.length] [(0,0,zrI u)] (.ls 1 u.length) 1 [(1,0,zrI u)]) (c1:Fn 152 1 [.ls 0 b.length] [(0,0,zrB b)] (.ls 1 b.length) 1 [(1,0,zrB b)]) (c2:Fn 151 1 [.ls 0 fr.length] [(0,0,zrI fr)] (.ls 1 fr.length) 1 [(1,0,zrI fr)]) (c3:Fn 153 1 [.ls 0 ev.length] [(0,0,qao ev)] (.ls 1 ev.length) 1 [(1,0,qao ev)]) (c4:qDm wh) :
 Fn 197 5 [agA u b fr ev wh] (qzk b ev fr u wh) (.ag [.ls 5 u.length,.ls 6 b.length,.ls 7 fr.length,.ls 8 ev.length,.ls 9 wh.length]) 5 [(5,0,zrI u),(6,0,zrB b),(7,0,zrI fr),(8,0,qao ev),(9,0,zrI wh)]:=
 Fz [(5,7),(6,8),(7,9),(8,11),(9,12)] [.md,Cf c0 [0],Cf c1 [1],Cf c2 [2],.md,Cf c3 [3],Cf c4 [4]]
  (qaG (qaK [(5,7),(6,8),(7,9),(8,11),(9,12)]) [(5,0,zrI u),(6,0,zrB b),(7,0,zrI fr),(8,0,qao ev),(9,0,zrI wh)]) (Co c0 [0] 7 (Co c1 [1] 8 (Co c2 [2] 9 (Co c3 [3] 11 (Co c4 [4] 12 tI)))))
abbrev qDg (b:List Bool) (ev:List Ev) (fr:List Int) (mm:Nat) (n:Nat) (u:List Int) (wh:List Int):HpL:=[(15,0,.ls 8 u.length),(15,1,.ls 9 b.length),(15,2,.ls 10 fr.length),(15,3,.ls 11 n),(15,4,.ls 12 mm),(13,0,.ls 8 u.length),(13,1,.ls 9 b.length),(13,2,.ls 10 fr.length),(13,3,.ls 11 n),(13,4,.ls 12 mm),(7,0,.pv (.slice none 0 0)),(7,1,.pv (.slice none 0 0)),(7,2,.pv (.slice none 0 0)),(7,3,.pv (.slice none 0 0)),(7,4,.pv (.slice none 0 0)),(14,0,.ls 8 u.length),(14,1,.ls 9 b.length),(14,2,.ls 10 fr.length),(14,3,.ls 11 n),(14,4,.ls 12 mm),(8,0,zrI u),(9,0,zrB b),(10,0,zrI fr),(11,0,.row 62 5 n (qaO (ev))),(12,0,.row 3 1 mm (ziV (wh)))]
abbrev qpE (k:Nat):TmL:=[(1,.pv (iV (k:Int))),(2,.pp 15 0)]
theorem qk3 {u fr wh:List Int} {b:List Bool} {ev:List Ev} {x y:Ev} {k j n mm:Nat} (hin_x:0≤(k:Int)∧(k:Int)<(n:Int)) (he_x:ev[k]?=some x) (hin_y:0≤(j:Int)∧(j:Int)<(n:Int)) (he_y:ev[j]?=some y) (h0:decide ((k:Int)>0)=true) (hp:qqQ j k) (hl:Pure Tryz.prog 213 #[qab x,qab y] (.bool true)) (hla:k<(ev).length) (hwb:0≤y.i∧y.i<(mm:Int)) (hwbl:y.i.toNat<(wh).length) (hlb:j<((ev).set k y).length) (hwa:0≤x.i∧x.i<(mm:Int)) (hwal:x.i.toNat<((wh).set y.i.toNat (k:Int)).length) {e:Exit} {tm2:TmL} {hp2:HpL}
 (r:Rl 5 15 222 0 29 16 ([(1,.pv (iV (j:Int))),(2,.pp 15 0)]) ([(15,0,.ls 8 u.length),(15,1,.ls 9 b.length),(15,2,.ls 10 fr.length),(15,3,.ls 11 n),(15,4,.ls 12 mm),(13,0,.ls 8 u.length),(13,1,.ls 9 b.length),(13,2,.ls 10 fr.length),(13,3,.ls 11 n),(13,4,.ls 12 mm),(7,0,.pv (.slice none 0 0)),(7,1,.pv (.slice none 0 0)),(7,2,.pv (.slice none 0 0)),(7,3,.pv (.slice none 0 0)),(7,4,.pv (.slice none 0 0)),(14,0,.ls 8 u.length),(14,1,.ls 9 b.length),(14,2,.ls 10 fr.length),(14,3,.ls 11 n),(14,4,.ls 12 mm),(8,0,zrI u),(9,0,zrB b),(10,0,zrI fr),(11,0,.row 62 5 n (qaO (((ev).set k y).set j x))),(12,0,.row 3 1 mm (ziV (((wh).set y.i.toNat (k:Int)).set x.i.toNat (j:Int))))]) e tm2 hp2):Rl 5 15 222 0 29 16 (qpE k) (qDg b ev fr mm n u wh) e tm2 hp2:=
 RunsL.next [] 300 [.t true,.r (qab x),Rf hp,.r (qab y),Rf hl,Rf hp,.k,.r (qab x),.r (qab y),.k,.w (qaO ((ev).set k y)),.w (ziV ((wh).set y.i.toNat (k:Int))),.k,.w (qaO (((ev).set k y).set j x)),.w (ziV (((wh).set y.i.toNat (k:Int)).set x.i.toNat (j:Int))),Rf hp]
  (Ro (Ai h0 (Ai hin_x (Ai (qbc he_x) (Ai hp (Ai hin_y (Ai (qbc he_y) (Ai hl (Ai hp (Ai hin_x (Ai (qbc he_x) (Ai hin_y (Ai (qbc he_y) (Ai hin_x (Ai (qkG (ev) k y hla) (Ai (qey (ev) k hla) (Ai hwb (Ai (qh7 (wh) y.i.toNat (k:Int) hwbl) (Ai (qbC (wh) y.i.toNat hwbl) (Ai hin_y (Ai (qkG ((ev).set k y) j x hlb) (Ai (qey ((ev).set k y) j hlb) (Ai hwa (Ai (qh7 ((wh).set y.i.toNat (k:Int)) x.i.toNat (j:Int) hwal) (Ai (qbC ((wh).set y.i.toNat (k:Int)) x.i.toNat hwal) (Ai hp tI)))))))))))))))))))))))))) r
abbrev qCd (b:List Bool) (ev:List Ev) (fr:List Int) (mm:Nat) (n:Nat) (u:List Int) (wh:List Int):HpL:=[(13,0,.ls 8 u.length),(13,1,.ls 9 b.length),(13,2,.ls 10 fr.length),(13,3,.ls 11 n),(13,4,.ls 12 mm),(7,0,.pv (.slice none 0 0)),(7,1,.pv (.slice none 0 0)),(7,2,.pv (.slice none 0 0)),(7,3,.pv (.slice none 0 0)),(7,4,.pv (.slice none 0 0)),(14,0,.ls 8 u.length),(14,1,.ls 9 b.length),(14,2,.ls 10 fr.length),(14,3,.ls 11 n),(14,4,.ls 12 mm),(8,0,zrI u),(9,0,zrB b),(10,0,zrI fr),(11,0,.row 62 5 n (qaO (ev))),(12,0,.row 3 1 mm (ziV (wh)))]
theorem qlR {u fr wh:List Int} {b:List Bool} {ev:List Ev} {x y:Ev} {k j n mm:Nat} (hin_x:0≤(k:Int)∧(k:Int)<(n:Int)) (he_x:ev[k]?=some x) (hin_y:0≤(j:Int)∧(j:Int)<(n:Int)) (he_y:ev[j]?=some y) (h0:decide ((k:Int)>0)=true) (hp:qqQ j k) (hl:Pure Tryz.prog 213 #[qab x,qab y] (.bool false)):Rl 5 15 222 0 29 16 (qpE k) (qDg b ev fr mm n u wh) (.exit 0) ([(1,.pv (iV (k:Int)))]) (qCd b ev fr mm n u wh):=
 RunsL.stop [] 300 [.t true,.r (qab x),Rf hp,.r (qab y),Rf hl] (fun h=>by cases h)
  (Ro (Ai h0 (Ai hin_x (Ai (qbc he_x) (Ai hp (Ai hin_y (Ai (qbc he_y) (Ai hl tI))))))))
theorem qlD {u fr wh:List Int} {b:List Bool} {ev:List Ev} {k n mm:Nat} (h0:decide ((k:Int)>0)=false):Rl 5 15 222 0 29 16 (qpE k) (qDg b ev fr mm n u wh) (.exit 0) ([(1,.pv (iV (k:Int)))]) (qCd b ev fr mm n u wh):=
 RunsL.stop [] 300 [.t false] (fun h=>by cases h)
  (Ro (Ai h0 tI))
abbrev qEH (b:List Bool) (ev:List Ev) (fr:List Int) (mm:Nat) (n:Nat) (u:List Int) (wh:List Int):HpL:=[(16,0,.ls 8 u.length),(16,1,.ls 9 b.length),(16,2,.ls 10 fr.length),(16,3,.ls 11 n),(16,4,.ls 12 mm),(13,0,.ls 8 u.length),(13,1,.ls 9 b.length),(13,2,.ls 10 fr.length),(13,3,.ls 11 n),(13,4,.ls 12 mm),(7,0,.pv (.slice none 0 0)),(7,1,.pv (.slice none 0 0)),(7,2,.pv (.slice none 0 0)),(7,3,.pv (.slice none 0 0)),(7,4,.pv (.slice none 0 0)),(14,0,.ls 8 u.length),(14,1,.ls 9 b.length),(14,2,.ls 10 fr.length),(14,3,.ls 11 n),(14,4,.ls 12 mm),(8,0,zrI u),(9,0,zrB b),(10,0,zrI fr),(11,0,.row 62 5 n (qaO (ev))),(12,0,.row 3 1 mm (ziV (wh)))]
theorem qlU {u fr wh:List Int} {b:List Bool} {ev:List Ev} {x y:Ev} {k n mm l:Nat} (hle:qBL ev k l n) (hq:((l:Int)==(k:Int))=false) (hin_x:0≤(k:Int)∧(k:Int)<(n:Int)) (he_x:ev[k]?=some x) (hin_y:0≤(l:Int)∧(l:Int)<(n:Int)) (he_y:ev[l]?=some y) (hla:k<(ev).length) (hwb:0≤y.i∧y.i<(mm:Int)) (hwbl:y.i.toNat<(wh).length) (hlb:l<((ev).set k y).length) (hwa:0≤x.i∧x.i<(mm:Int)) (hwal:x.i.toNat<((wh).set y.i.toNat (k:Int)).length) {e:Exit} {tm2:TmL} {hp2:HpL}
 (r:Rl 5 16 221 0 17 17 ([(1,.pv (iV (l:Int))),(2,.pp 16 0)]) ([(16,0,.ls 8 u.length),(16,1,.ls 9 b.length),(16,2,.ls 10 fr.length),(16,3,.ls 11 n),(16,4,.ls 12 mm),(13,0,.ls 8 u.length),(13,1,.ls 9 b.length),(13,2,.ls 10 fr.length),(13,3,.ls 11 n),(13,4,.ls 12 mm),(7,0,.pv (.slice none 0 0)),(7,1,.pv (.slice none 0 0)),(7,2,.pv (.slice none 0 0)),(7,3,.pv (.slice none 0 0)),(7,4,.pv (.slice none 0 0)),(14,0,.ls 8 u.length),(14,1,.ls 9 b.length),(14,2,.ls 10 fr.length),(14,3,.ls 11 n),(14,4,.ls 12 mm),(8,0,zrI u),(9,0,zrB b),(10,0,zrI fr),(11,0,.row 62 5 n (qaO (((ev).set k y).set l x))),(12,0,.row 3 1 mm (ziV (((wh).set y.i.toNat (k:Int)).set x.i.toNat (l:Int))))]) e tm2 hp2):Rl 5 16 221 0 17 17 ([(1,.pv (iV (k:Int))),(2,.pp 16 0)]) (qEH b ev fr mm n u wh) e tm2 hp2:=
 RunsL.next [] 300 [Cf hle [11],.t false,.k,.r (qab x),.r (qab y),.k,.w (qaO ((ev).set k y)),.w (ziV ((wh).set y.i.toNat (k:Int))),.k,.w (qaO (((ev).set k y).set l x)),.w (ziV (((wh).set y.i.toNat (k:Int)).set x.i.toNat (l:Int)))]
  (Ro (Co hle [11] 17 (Ai hq (Ai hin_x (Ai (qbc he_x) (Ai hin_y (Ai (qbc he_y) (Ai hin_x (Ai (qkG (ev) k y hla) (Ai (qey (ev) k hla) (Ai hwb (Ai (qh7 (wh) y.i.toNat (k:Int) hwbl) (Ai (qbC (wh) y.i.toNat hwbl) (Ai hin_y (Ai (qkG ((ev).set k y) l x hlb) (Ai (qey ((ev).set k y) l hlb) (Ai hwa (Ai (qh7 ((wh).set y.i.toNat (k:Int)) x.i.toNat (l:Int) hwal) (Ai (qbC ((wh).set y.i.toNat (k:Int)) x.i.toNat hwal) tI))))))))))))))))))) r
theorem qk4 {u fr wh:List Int} {b:List Bool} {ev:List Ev} {k n mm l:Nat} (hle:qBL ev k l n) (hq:((l:Int)==(k:Int))=true):Rl 5 16 221 0 17 17 ([(1,.pv (iV (k:Int))),(2,.pp 16 0)]) (qEH b ev fr mm n u wh) (.ret) ([]) (qCd b ev fr mm n u wh):=
 RunsL.stop [] 300 [Cf hle [11],.t true] (fun h=>by cases h)
  (Ro (Co hle [11] 17 (Ai hq tI)))
theorem qta {u fr wh wh3 wh4:List Int} {b:List Bool} {ev ev3 ev4:List Ev} {x:Ev} {tn td:Int} {k p:Nat} (hcl:Fn 197 5 [agA u b fr ev wh] (qzk b ev fr u wh) (.ag [.ls 5 u.length,.ls 6 b.length,.ls 7 fr.length,.ls 8 ev.length,.ls 9 wh.length]) 5 [(5,0,zrI u),(6,0,zrB b),(7,0,zrI fr),(8,0,qao ev),(9,0,zrI wh)]) (hik:0≤(k:Int)∧(k:Int)<(ev.length:Int)) (hx:ev[k]?=some x) (hset:k<ev.length) (r0:Rl 5 15 222 0 29 16 (qpE k) ([(15,0,.ls 8 u.length),(15,1,.ls 9 b.length),(15,2,.ls 10 fr.length),(15,3,.ls 11 ev.length),(15,4,.ls 12 wh.length),(13,0,.ls 8 u.length),(13,1,.ls 9 b.length),(13,2,.ls 10 fr.length),(13,3,.ls 11 ev.length),(13,4,.ls 12 wh.length),(7,0,.pv (.slice none 0 0)),(7,1,.pv (.slice none 0 0)),(7,2,.pv (.slice none 0 0)),(7,3,.pv (.slice none 0 0)),(7,4,.pv (.slice none 0 0)),(14,0,.ls 8 u.length),(14,1,.ls 9 b.length),(14,2,.ls 10 fr.length),(14,3,.ls 11 ev.length),(14,4,.ls 12 wh.length),(8,0,zrI u),(9,0,zrB b),(10,0,zrI fr),(11,0,.row 62 5 ev.length (qaO (ev.set k ⟨tn,td,x.k,x.i,x.w⟩))),(12,0,.row 3 1 wh.length (ziV (wh)))]) (.exit 0) ([(1,.pv (iV (p:Int)))]) ([(13,0,.ls 8 u.length),(13,1,.ls 9 b.length),(13,2,.ls 10 fr.length),(13,3,.ls 11 ev.length),(13,4,.ls 12 wh.length),(7,0,.pv (.slice none 0 0)),(7,1,.pv (.slice none 0 0)),(7,2,.pv (.slice none 0 0)),(7,3,.pv (.slice none 0 0)),(7,4,.pv (.slice none 0 0)),(14,0,.ls 8 u.length),(14,1,.ls 9 b.length),(14,2,.ls 10 fr.length),(14,3,.ls 11 ev.length),(14,4,.ls 12 wh.length),(8,0,zrI u),(9,0,zrB b),(10,0,zrI fr),(11,0,.row 62 5 ev.length (qaO (ev3))),(12,0,.row 3 1 wh.length (ziV (wh3)))])) (r1:Rl 5 16 221 0 17 17 ([(1,.pv (iV (p:Int))),(2,.pp 16 0)]) ([(16,0,.ls 8 u.length),(16,1,.ls 9 b.length),(16,2,.ls 10 fr.length),(16,3,.ls 11 ev.length),(16,4,.ls 12 wh.length),(13,0,.ls 8 u.length),(13,1,.ls 9 b.length),(13,2,.ls 10 fr.length),(13,3,.ls 11 ev.length),(13,4,.ls 12 wh.length),(7,0,.pv (.slice none 0 0)),(7,1,.pv (.slice none 0 0)),(7,2,.pv (.slice none 0 0)),(7,3,.pv (.slice none 0 0)),(7,4,.pv (.slice none 0 0)),(14,0,.ls 8 u.length),(14,1,.ls 9 b.length),(14,2,.ls 10 fr.length),(14,3,.ls 11 ev.length),(14,4,.ls 12 wh.length),(8,0,zrI u),(9,0,zrB b),(10,0,zrI fr),(11,0,.row 62 5 ev.length (qaO (ev3))),(12,0,.row 3 1 wh.length (ziV (wh3)))]) (.ret) ([]) ([(13,0,.ls 8 u.length),(13,1,.ls 9 b.length),(13,2,.ls 10 fr.length),(13,3,.ls 11 ev.length),(13,4,.ls 12 wh.length),(7,0,.pv (.slice none 0 0)),(7,1,.pv (.slice none 0 0)),(7,2,.pv (.slice none 0 0)),(7,3,.pv (.slice none 0 0)),(7,4,.pv (.slice none 0 0)),(14,0,.ls 8 u.length),(14,1,.ls 9 b.length),(14,2,.ls 10 fr.length),(14,3,.ls 11 ev.length),(14,4,.ls 12 wh.length),(8,0,zrI u),(9,0,zrB b),(10,0,zrI fr),(11,0,.row 62 5 ev.length (qaO (ev4))),(12,0,.row 3 1 wh.length (ziV (wh4)))])) :
 Fn 160 5 [agA u b fr ev wh,.pv (iV (k:Int)),.pv (qaa tn td)] (qzk b ev fr u wh) (.ag [.ls 5 u.length,.ls 6 b.length,.ls 7 fr.length,.ls 8 ev.length,.ls 9 wh.length]) 5 [(5,0,zrI u),(6,0,zrB b),(7,0,zrI fr),(8,0,.row 62 5 ev.length (qaO (ev4))),(9,0,.row 3 1 wh.length (ziV (wh4)))]:=
 Fz [(5,8),(6,9),(7,10),(8,11),(9,12)] [Cf hcl [0,1,2,3,4],.w (qaO (ev.set k ⟨tn,td,x.k,x.i,x.w⟩)),.k,.gh [(14,0),(14,1),(14,2),(14,3),(14,4)],.k,Lf r0,.k,Lf r1]
  (qaG (qaK [(5,8),(6,9),(7,10),(8,11),(9,12)]) [(5,0,zrI u),(6,0,zrB b),(7,0,zrI fr),(8,0,.row 62 5 ev.length (qaO (ev4))),(9,0,.row 3 1 wh.length (ziV (wh4)))]) (Co hcl [0,1,2,3,4] 8 (Ai hik (Ai (qEW ev k x tn td hx) (Ai (qzt ev k hset) (Ai (Er (SV.ls 8 u.length)) (Ai (Er (SV.ls 9 b.length)) (Ai (Er (SV.ls 10 fr.length)) (Ai (Er (SV.ls 11 ev.length)) (Ai (Er (SV.ls 12 wh.length)) (Lo r0 [] (Ai (Er (SV.ls 8 u.length)) (Ai (Er (SV.ls 9 b.length)) (Ai (Er (SV.ls 10 fr.length)) (Ai (Er (SV.ls 11 ev.length)) (Ai (Er (SV.ls 12 wh.length)) (Lo r1 [] (Ai (Er (SV.ls 8 u.length)) (Ai (Er (SV.ls 9 b.length)) (Ai (Er (SV.ls 10 fr.length)) (Ai (Er (SV.ls 11 ev.length)) (Ai (Er (SV.ls 12 wh.length)) tI)))))))))))))))))))))
end Go.Proofs.YtkjaanhddkkodaaGreat

namespace Go.Proofs.YtkjaanhddkkodaaGreat
set_option maxRecDepth 100000
open Go.RowKit
theorem qCN {e1 e2:Int} (g1:(!(e1==0))=false) (g2:(!(e2==0))=true) :
 Fn 158 1 [.ps 0 0 2 2] [(0,0,.pv (iV e1)),(0,1,.pv (iV e2))] (.pv (iV (e2))) 0 []:=
 Fz [] [.k,.t false,.k,.k,.t true]
  tI (Ai g1 (Ai g2 tI))
theorem qDT {e1 e2:Int} (g1:(!(e1==0))=false) (g2:(!(e2==0))=false) :
 Fn 158 1 [.ps 0 0 2 2] [(0,0,.pv (iV e1)),(0,1,.pv (iV e2))] (.pv (iV (0))) 0 []:=
 Fz [] [.k,.t false,.k,.k,.t false,.k,.k]
  tI (Ai g1 (Ai g2 tI))
theorem qwp {e1 e2 e3:Int} (g1:(!(e1==0))=false) (g2:(!(e2==0))=false) (g3:(!(e3==0))=false) :
 Fn 158 1 [.ps 0 0 3 3] [(0,0,.pv (iV e1)),(0,1,.pv (iV e2)),(0,2,.pv (iV e3))] (.pv (iV (0))) 0 []:=
 Fz [] [.k,.t false,.k,.k,.t false,.k,.k,.t false,.k,.k]
  tI (Ai g1 (Ai g2 (Ai g3 tI)))
abbrev qeN (b:List Bool) (ev:List Ev) (fr:List Int) (u:List Int) (wh:List Int):HpL:=[(0,0,zrI u),(1,0,zrB b),(2,0,zrI fr),(3,0,qao ev),(4,0,zrI wh)]
theorem qzG {u fr wh:List Int} {b:List Bool} {ev:List Ev} {z:Int} (hn:Pure Tryz.prog 210 #[iV (z)] (.bool false)) :
 Fn 199 5 [agA u b fr ev wh,.pv (iV (z))] (qeN b ev fr u wh) (.pv (iV (2))) 0 []:=
 Fz [] [Rf hn,.k]
  tI (Ai hn tI)
abbrev qDk (ev:List Ev) (k:Nat):TmL:=[(0,.ls 3 ev.length),(1,.pc 224 [.pp 6 0]),(7,.pv (iV (ev.length:Int))),(8,.pv (iV (k:Int)))]
theorem qon {ev:List Ev} {m:Ev} {z:Int} {k:Nat} (hk:ev[k]?=some m) (hin:0≤(k:Int)∧(k:Int)<(ev.length:Int)) (hlt:decide ((k:Int)<(ev.length:Int))=true) (hq:(m.k==z)=false) (hs:iV (IntKind.i64.wrap ((k:Int)+1))=iV (((k+1:Nat):Int))) {e:Exit} {tm2:TmL} {hp2:HpL}
 (r:Rl 5 7 241 0 19 7 ([(0,.ls 3 ev.length),(1,.pc 224 [.pp 6 0]),(7,.pv (iV (ev.length:Int))),(8,.pv (iV ((k+1:Nat):Int)))]) ([(6,0,.pv (iV z)),(3,0,qao ev)]) e tm2 hp2):Rl 5 7 241 0 19 7 (qDk ev k) ([(6,0,.pv (iV z)),(3,0,qao ev)]) e tm2 hp2:=
 RunsL.next [] 300 [.t true,.r (qab m),.k,.t false,Re hs]
  (Ro (Ai hlt (Ai hin (Ai (qbc hk) (Ai hq (Ai hs tI)))))) r
theorem qAe {ev:List Ev} {m:Ev} {z:Int} {k:Nat} (hk:ev[k]?=some m) (hin:0≤(k:Int)∧(k:Int)<(ev.length:Int)) (hlt:decide ((k:Int)<(ev.length:Int))=true) (hq:(m.k==z)=true):Rl 5 7 241 0 19 7 (qDk ev k) ([(6,0,.pv (iV z)),(3,0,qao ev)]) (.ret) ([(4,.pv (iV (k:Int)))]) ([]):=
 RunsL.stop [] 300 [.t true,.r (qab m),.k,.t true] (fun h=>by cases h)
  (Ro (Ai hlt (Ai hin (Ai (qbc hk) (Ai hq tI)))))
theorem qAC {ev:List Ev} {z:Int} {k:Nat} (hge:decide ((k:Int)<(ev.length:Int))=false):Rl 5 7 241 0 19 7 (qDk ev k) ([(6,0,.pv (iV z)),(3,0,qao ev)]) (.exit 0) ([]) ([]):=
 RunsL.stop [] 300 [.t false] (fun h=>by cases h)
  (Ro (Ai hge tI))
theorem qp8 {u fr wh:List Int} {b:List Bool} {ev:List Ev} {z:Int} {k:Nat} (hn:Pure Tryz.prog 210 #[iV (z)] (.bool true)) (r0:Rl 5 7 241 0 19 7 ([(0,.ls 3 ev.length),(1,.pc 224 [.pp 6 0]),(7,.pv (iV (ev.length:Int))),(8,.pv (iV ((0:Nat):Int)))]) ([(6,0,.pv (iV z)),(3,0,qao ev)]) (.ret) ([(4,.pv (iV (k:Int)))]) ([])) (h0:decide ((k:Int)≥0)=true) :
 Fn 199 5 [agA u b fr ev wh,.pv (iV (z))] (qeN b ev fr u wh) (.pv (iV (14))) 0 []:=
 Fz [] [Rf hn,.k,.k,.k,Lf r0,.t true]
  tI (Ai hn (Lo r0 [] (Ai h0 tI)))
theorem qC2 {u fr wh:List Int} {b:List Bool} {ev:List Ev} {z:Int} (hn:Pure Tryz.prog 210 #[iV (z)] (.bool true)) (r0:Rl 5 7 241 0 19 7 ([(0,.ls 3 ev.length),(1,.pc 224 [.pp 6 0]),(7,.pv (iV (ev.length:Int))),(8,.pv (iV ((0:Nat):Int)))]) ([(6,0,.pv (iV z)),(3,0,qao ev)]) (.exit 0) ([]) ([])) :
 Fn 199 5 [agA u b fr ev wh,.pv (iV (z))] (qeN b ev fr u wh) (.pv (iV (0))) 0 []:=
 Fz [] [Rf hn,.k,.k,.k,Lf r0,.k]
  tI (Ai hn (Lo r0 [] tI))
theorem qEe {u fr wh:List Int} {b:List Bool} {ev:List Ev} {hi hw:Int} (hh:Fn 196 3 [.ag [.ls 0 u.length,.ls 1 b.length,.ls 2 fr.length],.pv (qaL hi hw)] [(0,0,zrI u),(1,0,zrB b),(2,0,zrI fr)] (.pv (.tuple #[.bool false,iV 0])) 0 []) :
 Fn 159 5 [agA u b fr ev wh,.pv (qaL hi hw)] (qeN b ev fr u wh) (.pv (iV (6))) 0 []:=
 Fz [] [Cf hh [0,1,2],.k,.k]
  tI (Co hh [0,1,2] 7 tI)
theorem qzH {u fr wh:List Int} {b:List Bool} {ev:List Ev} {hi hw:Int} (hh:Fn 196 3 [.ag [.ls 0 u.length,.ls 1 b.length,.ls 2 fr.length],.pv (qaL hi hw)] [(0,0,zrI u),(1,0,zrB b),(2,0,zrI fr)] (.pv (.tuple #[.bool true,iV 0])) 0 []) :
 Fn 159 5 [agA u b fr ev wh,.pv (qaL hi hw)] (qeN b ev fr u wh) (.pv (iV (0))) 0 []:=
 Fz [] [Cf hh [0,1,2],.k,.k]
  tI (Co hh [0,1,2] 7 tI)
abbrev quo (b:List Bool) (ev:List Ev) (fr:List Int) (u:List Int) (wh:List Int):Prop:=Fn 115 5 [agA u b fr ev wh] (qeN b ev fr u wh) (.pv (iV (0))) 0 []
theorem qsZ {u fr wh:List Int} {b:List Bool} {ev:List Ev} (hc:quo b ev fr u wh) (h0:((ev.length:Int)==0)=true) :
 Fn 61 5 [agA u b fr ev wh] (qeN b ev fr u wh) (.pv (.tuple #[.agg #[iV 0,iV 0,iV 0,iV 0,iV 0],iV 42])) 0 []:=
 Fz [] [Cf hc [0,1,2,3,4],.k,.t true]
  tI (Co hc [0,1,2,3,4] 7 (Ai h0 tI))
theorem qB3 {u fr wh:List Int} {b:List Bool} {ev:List Ev} {x:Ev} (hc:quo b ev fr u wh) (h0:((ev.length:Int)==0)=false) (hx:ev[0]?=some x) (hin:0≤(0:Int)∧(0:Int)<(ev.length:Int)) :
 Fn 61 5 [agA u b fr ev wh] (qeN b ev fr u wh) (.pv (.tuple #[qab x,iV 0])) 0 []:=
 Fz [] [Cf hc [0,1,2,3,4],.k,.t false,.r (qab x)]
  tI (Co hc [0,1,2,3,4] 7 (Ai h0 (Ai hin (Ai (qbc hx) tI))))
theorem qug {u fr wh:List Int} {b:List Bool} {ev:List Ev} {hi hw:Int} (hc:quo b ev fr u wh) (hl:Fn 159 5 [agA u b fr ev wh,.pv (qaL hi hw)] (qeN b ev fr u wh) (.pv (iV (6))) 0 []) (hfe:Fn 158 1 [.ps 0 0 2 2] [(0,0,.pv (iV (0))),(0,1,.pv (iV (6)))] (.pv (iV (6))) 0 []) :
 Fn 203 5 [agA u b fr ev wh,.pv (qaL hi hw)] (qeN b ev fr u wh) (.pv (.tuple #[.agg #[iV 0,iV 0,iV 0,iV 0,iV 0],iV 6])) 0 []:=
 Fz [] [.md,Cf hc [0,1,2,3,4],Cf hl [0,1,2,3,4],Cf hfe [8],.k]
  tI (Co hc [0,1,2,3,4] 8 (Co hl [0,1,2,3,4] 8 (Co hfe [8] 9 tI)))
theorem qCZ {u fr wh:List Int} {b:List Bool} {ev:List Ev} {x:Ev} {hi hw:Int} {j:Nat} (hc:quo b ev fr u wh) (hl:Fn 159 5 [agA u b fr ev wh,.pv (qaL hi hw)] (qeN b ev fr u wh) (.pv (iV (0))) 0 []) (hfe:Fn 158 1 [.ps 0 0 2 2] [(0,0,.pv (iV (0))),(0,1,.pv (iV (0)))] (.pv (iV (0))) 0 []) (hiw:0≤hi∧hi<(wh.length:Int)) (hw_:wh[hi.toNat]?=some (j:Int)) (hij:0≤(j:Int)∧(j:Int)<(ev.length:Int)) (hx:ev[j]?=some x) :
 Fn 203 5 [agA u b fr ev wh,.pv (qaL hi hw)] (qeN b ev fr u wh) (.pv (.tuple #[qab x,iV 0])) 0 []:=
 Fz [] [.md,Cf hc [0,1,2,3,4],Cf hl [0,1,2,3,4],Cf hfe [8],.k,.md,.r (iV (j:Int)),.r (qab x)]
  tI (Co hc [0,1,2,3,4] 8 (Co hl [0,1,2,3,4] 8 (Co hfe [8] 9 (Ai hiw (Ai (qeU hw_) (Ai hij (Ai (qbc hx) tI)))))))
theorem qvS {u fr wh:List Int} {b:List Bool} {ev:List Ev} {hi hw:Int} (hf:Fn 203 5 [agA u b fr ev wh,.pv (qaL hi hw)] (qeN b ev fr u wh) (.pv (.tuple #[.agg #[iV 0,iV 0,iV 0,iV 0,iV 0],iV 6])) 0 []) :
 Fn 163 5 [agA u b fr ev wh,.pv (qaL hi hw)] (qeN b ev fr u wh) (.pv (.tuple #[.agg #[.slice none 0 0,.slice none 0 0,.slice none 0 0,.slice none 0 0,.slice none 0 0],.agg #[iV 0,iV 0,iV 0,iV 0,iV 0],iV 6])) 0 []:=
 Fz [] [Cf hf [0,1,2,3,4],.k]
  tI (Co hf [0,1,2,3,4] 9 tI)
theorem qCq {u fr wh u2 f2 wh3:List Int} {b b2:List Bool} {ev ev3:List Ev} {x:Ev} {hi hw:Int} {j:Nat} (hf:Fn 203 5 [agA u b fr ev wh,.pv (qaL hi hw)] (qeN b ev fr u wh) (.pv (.tuple #[qab x,iV 0])) 0 []) (hiw:0≤hi∧hi<(wh.length:Int)) (hwj:wh[hi.toNat]?=some (j:Int)) (hw_:Fn 204 5 [agA u b fr ev wh,.pv (iV (j:Int))] (qeN b ev fr u wh) (.ag [.ls 5 u2.length,.ls 6 b2.length,.ls 7 f2.length,.ls 8 ev3.length,.ls 9 wh3.length]) 5 [(5,0,zrI u2),(6,0,zrB b2),(7,0,zrI f2),(8,0,qao ev3),(9,0,zrI wh3)]) :
 Fn 163 5 [agA u b fr ev wh,.pv (qaL hi hw)] (qeN b ev fr u wh) (.tu [.ag [.ls 5 u2.length,.ls 6 b2.length,.ls 7 f2.length,.ls 8 ev3.length,.ls 9 wh3.length],.one (.pv (qab x)),.one (.pv (iV 0))]) 5 [(5,0,zrI u2),(6,0,zrB b2),(7,0,zrI f2),(8,0,qao ev3),(9,0,zrI wh3)]:=
 Fz [(5,10),(6,11),(7,12),(8,13),(9,14)] [Cf hf [0,1,2,3,4],.k,.md,.r (iV (j:Int)),Cf hw_ [0,1,2,3,4]]
  (qaG (qaK [(5,10),(6,11),(7,12),(8,13),(9,14)]) [(5,0,zrI u2),(6,0,zrB b2),(7,0,zrI f2),(8,0,qao ev3),(9,0,zrI wh3)]) (Co hf [0,1,2,3,4] 9 (Ai hiw (Ai (qeU hwj) (Co hw_ [0,1,2,3,4] 10 tI))))
abbrev qDO:Prop:=Fn 158 1 [.ps 0 0 3 3] [(0,0,.pv (iV (0))),(0,1,.pv (iV (0))),(0,2,.pv (iV (0)))] (.pv (iV (0))) 0 []
theorem qBW {u fr wh wh3:List Int} {b:List Bool} {ev ev3:List Ev} {tn td hi hw:Int} {j:Nat} (hc:quo b ev fr u wh) (hr:Pure Tryz.prog 49 #[qaa tn td] (iV (0))) (hl:Fn 159 5 [agA u b fr ev wh,.pv (qaL hi hw)] (qeN b ev fr u wh) (.pv (iV (0))) 0 []) (hfe:qDO) (hiw:0≤hi∧hi<(wh.length:Int)) (hwj:wh[hi.toNat]?=some (j:Int)) (hw_:Fn 160 5 [agA u b fr ev wh,.pv (iV (j:Int)),.pv (qaa tn td)] (qeN b ev fr u wh) (.ag [.ls 5 u.length,.ls 6 b.length,.ls 7 fr.length,.ls 8 ev3.length,.ls 9 wh3.length]) 5 [(5,0,zrI u),(6,0,zrB b),(7,0,zrI fr),(8,0,qao ev3),(9,0,zrI wh3)]) :
 Fn 111 5 [agA u b fr ev wh,.pv (qaL hi hw),.pv (qaa tn td)] (qeN b ev fr u wh) (.tu [.ag [.ls 5 u.length,.ls 6 b.length,.ls 7 fr.length,.ls 8 ev3.length,.ls 9 wh3.length],.one (.pv (iV 0))]) 5 [(5,0,zrI u),(6,0,zrB b),(7,0,zrI fr),(8,0,qao ev3),(9,0,zrI wh3)]:=
 Fz [(5,10),(6,11),(7,12),(8,13),(9,14)] [.md,Cf hc [0,1,2,3,4],Rf hr,Cf hl [0,1,2,3,4],Cf hfe [9],.k,.md,.r (iV (j:Int)),Cf hw_ [0,1,2,3,4]]
  (qaG (qaK [(5,10),(6,11),(7,12),(8,13),(9,14)]) [(5,0,zrI u),(6,0,zrB b),(7,0,zrI fr),(8,0,qao ev3),(9,0,zrI wh3)]) (Co hc [0,1,2,3,4] 9 (Ai hr (Co hl [0,1,2,3,4] 9 (Co hfe [9] 10 (Ai hiw (Ai (qeU hwj) (Co hw_ [0,1,2,3,4] 10 tI)))))))
theorem quN {u fr wh:List Int} {b:List Bool} {ev:List Ev} {z tn td:Int} (hc:quo b ev fr u wh) (hr:Pure Tryz.prog 49 #[qaa tn td] (iV (0))) (hn:Fn 199 5 [agA u b fr ev wh,.pv (iV (z))] (qeN b ev fr u wh) (.pv (iV (0))) 0 []) (hfe:qDO) (htk:Fn 200 3 [.ag [.ls 0 u.length,.ls 1 b.length,.ls 2 fr.length]] [(0,0,zrI u),(1,0,zrB b),(2,0,zrI fr)] (.pv (.tuple #[.agg #[.slice none 0 0,.slice none 0 0,.slice none 0 0],.agg #[iV 0,iV 0],iV 18])) 0 []) :
 Fn 161 5 [agA u b fr ev wh,.pv (qaa tn td),.pv (iV (z))] (qeN b ev fr u wh) (.pv (.tuple #[.agg #[.slice none 0 0,.slice none 0 0,.slice none 0 0,.slice none 0 0,.slice none 0 0],.agg #[iV 0,iV 0],iV 18])) 0 []:=
 Fz [] [.md,Cf hc [0,1,2,3,4],Rf hr,Cf hn [0,1,2,3,4],Cf hfe [9],.k,Cf htk [0,1,2],.k]
  tI (Co hc [0,1,2,3,4] 9 (Ai hr (Co hn [0,1,2,3,4] 9 (Co hfe [9] 10 (Co htk [0,1,2] 10 tI)))))
theorem qDJ {u fr wh u2 f2 wh3:List Int} {b b2:List Bool} {ev ev3:List Ev} {z tn td hi hw:Int} (hc:quo b ev fr u wh) (hr:Pure Tryz.prog 49 #[qaa tn td] (iV (0))) (hn:Fn 199 5 [agA u b fr ev wh,.pv (iV (z))] (qeN b ev fr u wh) (.pv (iV (0))) 0 []) (hfe:qDO) (htk:Fn 200 3 [.ag [.ls 0 u.length,.ls 1 b.length,.ls 2 fr.length]] [(0,0,zrI u),(1,0,zrB b),(2,0,zrI fr)] (.tu [.ag [.ls 3 u2.length,.ls 4 b2.length,.ls 5 f2.length],.one (.pv (qaL hi hw)),.one (.pv (iV 0))]) 3 [(3,0,zrI u2),(4,0,zrB b2),(5,0,zrI f2)]) (hpu:Fn 201 8 [agA u b fr ev wh,.ag [.ls 5 u2.length,.ls 6 b2.length,.ls 7 f2.length],.pv (qab (Ev.mk tn td z hi hw))] [(0,0,zrI u),(1,0,zrB b),(2,0,zrI fr),(3,0,qao ev),(4,0,zrI wh),(5,0,zrI u2),(6,0,zrB b2),(7,0,zrI f2)] (.ag [.ls 5 u2.length,.ls 6 b2.length,.ls 7 f2.length,.ls 8 ev3.length,.ls 9 wh3.length]) 2 [(8,0,qao ev3),(9,0,zrI wh3)]) :
 Fn 161 5 [agA u b fr ev wh,.pv (qaa tn td),.pv (iV (z))] (qeN b ev fr u wh) (.tu [.ag [.ls 5 u2.length,.ls 6 b2.length,.ls 7 f2.length,.ls 8 ev3.length,.ls 9 wh3.length],.one (.pv (qaL hi hw)),.one (.pv (iV 0))]) 5 [(5,0,zrI u2),(6,0,zrB b2),(7,0,zrI f2),(8,0,qao ev3),(9,0,zrI wh3)]:=
 Fz [(5,10),(6,11),(7,12),(8,16),(9,17)] [.md,Cf hc [0,1,2,3,4],Rf hr,Cf hn [0,1,2,3,4],Cf hfe [9],.k,Cf htk [0,1,2],.k,.gh [(5,0),(5,1),(5,2),(5,3),(5,4),(13,0),(13,1),(13,2),(15,0),(15,1),(15,2),(15,3),(15,4),(14,0),(14,1)],Cf hpu [0,1,2,3,4,10,11,12]]
  (qaG (qaK [(5,10),(6,11),(7,12),(8,16),(9,17)]) [(5,0,zrI u2),(6,0,zrB b2),(7,0,zrI f2),(8,0,qao ev3),(9,0,zrI wh3)]) (Co hc [0,1,2,3,4] 9 (Ai hr (Co hn [0,1,2,3,4] 9 (Co hfe [9] 10 (Co htk [0,1,2] 10 (Co hpu [0,1,2,3,4,10,11,12] 16 (Ai (Er (SV.ls 0 u.length)) (Ai (Er (SV.ls 1 b.length)) (Ai (Er (SV.ls 2 fr.length)) (Ai (Er (SV.ls 3 ev.length)) (Ai (Er (SV.ls 4 wh.length)) (Ai (Er (SV.ls 10 u2.length)) (Ai (Er (SV.ls 11 b2.length)) (Ai (Er (SV.ls 12 f2.length)) (Ai (Er (SV.pv (iV tn))) (Ai (Er (SV.pv (iV td))) (Ai (Er (SV.pv (iV z))) (Ai (Er (SV.pv (iV hi))) (Ai (Er (SV.pv (iV hw))) (Ai (Er (SV.pv (iV hi))) (Ai (Er (SV.pv (iV hw))) (Ai (Er (SV.ls 0 u.length)) (Ai (Er (SV.ls 1 b.length)) (Ai (Er (SV.ls 2 fr.length)) (Ai (Er (SV.ls 3 ev.length)) (Ai (Er (SV.ls 4 wh.length)) (Ai (Er (SV.ls 10 u2.length)) (Ai (Er (SV.ls 11 b2.length)) (Ai (Er (SV.ls 12 f2.length)) (Ai (Er (SV.pv (iV tn))) (Ai (Er (SV.pv (iV td))) (Ai (Er (SV.pv (iV z))) (Ai (Er (SV.pv (iV hi))) (Ai (Er (SV.pv (iV hw))) (Ai (Er (SV.pv (iV hi))) (Ai (Er (SV.pv (iV hw))) (Ai (Er (SV.ls 0 u.length)) (Ai (Er (SV.ls 1 b.length)) (Ai (Er (SV.ls 2 fr.length)) (Ai (Er (SV.ls 3 ev.length)) (Ai (Er (SV.ls 4 wh.length)) (Ai (Er (SV.ls 10 u2.length)) (Ai (Er (SV.ls 11 b2.length)) (Ai (Er (SV.ls 12 f2.length)) (Ai (Er (SV.pv (iV tn))) (Ai (Er (SV.pv (iV td))) (Ai (Er (SV.pv (iV z))) (Ai (Er (SV.pv (iV hi))) (Ai (Er (SV.pv (iV hw))) (Ai (Er (SV.pv (iV hi))) (Ai (Er (SV.pv (iV hw))) (Ai (Er (SV.ls 0 u.length)) (Ai (Er (SV.ls 1 b.length)) (Ai (Er (SV.ls 2 fr.length)) (Ai (Er (SV.ls 3 ev.length)) (Ai (Er (SV.ls 4 wh.length)) (Ai (Er (SV.ls 10 u2.length)) (Ai (Er (SV.ls 11 b2.length)) (Ai (Er (SV.ls 12 f2.length)) (Ai (Er (SV.pv (iV tn))) (Ai (Er (SV.pv (iV td))) (Ai (Er (SV.pv (iV z))) (Ai (Er (SV.pv (iV hi))) (Ai (Er (SV.pv (iV hw))) (Ai (Er (SV.pv (iV hi))) (Ai (Er (SV.pv (iV hw))) tI))))))))))))))))))))))))))))))))))))))))))))))))))))))))))))))))))
end Go.Proofs.YtkjaanhddkkodaaGreat

namespace Go.Proofs.YtkjaanhddkkodaaGreat
set_option maxRecDepth 100000
open Go.RowKit
theorem qqZ {x y a b:Int} (h:Pure Tryz.prog 191 #[.int .u64 x,.int .u64 y] (.tuple #[.int .u64 a,.int .u64 b])):Pure Tryz.prog 146 #[.int .u64 x,.int .u64 y] (.tuple #[.int .u64 a,.int .u64 b]):=
 qaA (args:=[.int .u64 x,.int .u64 y]) 300 [Rf h] (Ai rfl (Ai h tI)) (by kernel_rfl)
theorem qsS {g wv:List Int} {k j n:Nat} (hk0:0≤(k:Int)) (hkn:k≤n) (hlt:decide ((k:Int)<(n:Int))=true) (hys:ziV wv=qdf (ziV g) ((0+k)*1) (List.take (Nat.min k (n-k)*1) (List.take (k*1) (List.drop (0*1) (ziV g))))) (hpos:0<Nat.min k (n-k)) (hin:(0+k)*1+(List.take (Nat.min k (n-k)*1) (List.take (k*1) (List.drop (0*1) (ziV g)))).length≤(ziV g).length) (hs:iV (IntKind.i64.wrap ((k:Int)+((Nat.min k (n-k):Nat):Int)))=iV (j:Int)) {e:Exit} {tm2:TmL} {hp2:HpL}
 (r:Rl 1 1 99 0 48 2 ([(7,.ls 1 n),(8,.pv (iV (j:Int)))]) ([(1,0,.row 3 1 n (ziV (wv)))]) e tm2 hp2):Rl 1 1 99 0 48 2 ([(7,.ls 1 n),(8,.pv (iV (k:Int)))]) ([(1,0,.row 3 1 n (ziV (g)))]) e tm2 hp2:=
 RunsL.next [] 300 [.t true,.gr,.k,.k,.w (ziV wv),.r (iV (j:Int))]
  (Ro (Ai hlt (Ai hk0 (Ai tI (Ai hkn (Ai (Nat.le_refl n) (Ai tI (Ai hk0 (Ai (Nat.zero_le k) (Ai hkn (Ai hys (Ai hpos (Ai hin (Ai hs tI)))))))))))))) r
theorem qrX {g:List Int} {k n:Nat} (hge:decide ((k:Int)<(n:Int))=false):Rl 1 1 99 0 48 2 ([(7,.ls 1 n),(8,.pv (iV (k:Int)))]) ([(1,0,.row 3 1 n (ziV (g)))]) (.exit 0) ([(7,.ls 1 n)]) ([(1,0,.row 3 1 n (ziV (g)))]):=
 RunsL.stop [] 300 [.t false] (fun h=>by cases h)
  (Ro (Ai hge tI))
theorem qvt {g wv:List Int} {z:Int} {n:Nat} (h0:decide ((n:Int)<0)=false) (hu:Value.int .u64 (IntKind.u64.wrap (n:Int))=.int .u64 (n:Int)) (hm:Pure Tryz.prog 146 #[.int .u64 1,.int .u64 (n:Int)] (.tuple #[.int .u64 0,.int .u64 (n:Int)])) (hb:decide ((n:Int)>9223372036854775807)=false) (hi:iV (IntKind.i64.wrap (n:Int))=iV (n:Int)) (n0:0≤(n:Int)) (n1:(n:Int)≤1000000) (hys:ziV g=qdf (qc0 [iV 0] n) (0*1) (List.take (Nat.min 1 n*1) [iV z])) (hpos:0<Nat.min 1 n) (hin:0*1+(List.take (Nat.min 1 n*1) [iV z]).length≤(qc0 [iV 0] n).length) (h1:SV.pv (goInt (Nat.min 1 n))=.pv (iV ((1:Nat):Int))) (r0:Rl 1 1 99 0 48 2 ([(7,.ls 1 n),(8,.pv (iV ((1:Nat):Int)))]) ([(1,0,.row 3 1 n (ziV (g)))]) (.exit 0) ([(7,.ls 1 n)]) ([(1,0,.row 3 1 n (ziV (wv)))])) :
 Fn 99 1 [.ps 0 0 1 1,.pv (iV (n:Int))] [(0,0,.pv (iV z))] (.ls 1 n) 1 [(1,0,.row 3 1 n (ziV wv))]:=
 Fz [(1,1)] [.t false,.k,Re hu,Rf hm,.k,.t false,Re hi,.w (ziV g),Lf r0]
  (qaG (qaK [(1,1)]) [(1,0,.row 3 1 n (ziV wv))]) (Ai h0 (Ai hu (Ai hm (Ai hb (Ai hi (Ai n0 (Ai (Eq.refl (n:Int)) (Ai n1 (Ai hys (Ai hpos (Ai hin (Ai (Ai (Eq.refl (SV.ls 1 n)) (Ai h1 tI)) (Ai (Lh r0 []) (Ai r0 tI))))))))))))))
theorem qDz {wv f2:List Int} {n:Nat} (hs:Fn 98 0 [.pv (iV (n:Int))] [] (.tu [.ag [.ls 0 n,.ls 1 n,.ls 2 n],.one (.pv (iV 0))]) 3 [(0,0,.row 3 1 n (ziV (List.replicate n 0))),(1,0,.row 4 1 n (zbV (List.replicate n false))),(2,0,.row 3 1 n (ziV f2))]) (hr:Fn 99 1 [.ps 0 0 1 1,.pv (iV (n:Int))] [(0,0,.pv (iV (-1)))] (.ls 1 n) 1 [(1,0,.row 3 1 n (ziV wv))]) :
 Fn 50 0 [.pv (iV (n:Int))] [] (.tu [.ag [.ls 0 n,.ls 1 n,.ls 2 n,.pv (.slice none 0 0),.ls 3 n],.one (.pv (iV 0))]) 4 [(0,0,.row 3 1 n (ziV (List.replicate n 0))),(1,0,.row 4 1 n (zbV (List.replicate n false))),(2,0,.row 3 1 n (ziV f2)),(3,0,.row 3 1 n (ziV wv))]:=
 Fz [(0,1),(1,2),(2,3),(3,6)] [Cf hs [],.k,.md,Cf hr [5]]
  (qaG (qaK [(0,1),(1,2),(2,3),(3,6)]) [(0,0,.row 3 1 n (ziV (List.replicate n 0))),(1,0,.row 4 1 n (zbV (List.replicate n false))),(2,0,.row 3 1 n (ziV f2)),(3,0,.row 3 1 n (ziV wv))]) (Co hs [] 1 (Co hr [5] 6 tI))
end Go.Proofs.YtkjaanhddkkodaaGreat
