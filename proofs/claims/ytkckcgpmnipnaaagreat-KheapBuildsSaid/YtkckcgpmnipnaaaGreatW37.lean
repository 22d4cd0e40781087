/-
  Joined: Ye, Yf, Yg, Yh, Yi. Conditions: none.
-/
import Derived.Test.YtkckcgpmnipnaaaGreatW36
import Derived.Test.YtkckcgpmnipnaaaGreatW21
namespace Go.Proofs.YtkckcgpmnipnaaaGreat
set_option maxRecDepth 100000
open Go.RowKit
theorem qsi {l:List Int} (h:l.Pairwise (fun x y=>x≤y)) (hd:∀ k x y,l[k]?=some x→l[k+1]?=some y→x≠y):l.Nodup:=by
 rw[List.nodup_iff_pairwise_ne,List.pairwise_iff_getElem]
 rw[List.pairwise_iff_getElem] at h
 intro i j hi hj hij e
 have h1:=h i (i+1)
 have hi1:i+1<l.length:=by omega
 have a1:=h i (i+1) hi hi1 (by omega)
 have a2:l[i+1]≤l[j]:=by
  rcases Nat.lt_or_ge (i+1) j with c | c
  ·exact h (i+1) j hi1 hj c
  ·have:j=i+1:=by omega
   subst this;exact Int.le_refl _
 have:=hd i l[i] l[i+1] (List.getElem?_eq_getElem hi) (List.getElem?_eq_getElem hi1)
 omega
theorem qk6 {l:List Int} (h:l.Nodup) {k:Nat} {x y:Int} (hx:l[k]?=some x) (hy:l[k+1]?=some y):x≠y:=by
 intro e
 subst e
 have:=(List.getElem?_inj (i:=k) (j:=k+1) (List.getElem?_eq_some_iff.1 hx).1 h).1 (hx.trans hy.symm)
 omega
theorem qr0 {l:List Int} (h:l.Pairwise (fun x y=>x≤y)) (hn:¬ l.Nodup):∃ k x,l[k]?=some x∧l[k+1]?=some x∧∀ j,j<k→∀ y z,l[j]?=some y→l[j+1]?=some z→z≠y:=by
 have hex:∃ k,∃ x,l[k]?=some x∧l[k+1]?=some x:=by
  apply Classical.byContradiction
  intro hne
  exact hn (qsi h fun k x y hx hy e=>hne ⟨k,x,hx,by rw[hy,e]⟩)
 have key:∀ n k,k≤n→(∃ x,l[k]?=some x∧l[k+1]?=some x)→∃ k x,l[k]?=some x∧l[k+1]?=some x∧∀ j,j<k→∀ y z,l[j]?=some y→l[j+1]?=some z→z≠y:=by
  intro n
  induction n with
  | zero=>
   intro k hk ⟨x,h1,h2⟩
   exact⟨k,x,h1,h2,fun j hj=>by omega⟩
  | succ n ih=>
   intro k hk ⟨x,h1,h2⟩
   by_cases hc:∃ j,j<k∧∃ x,l[j]?=some x∧l[j+1]?=some x
   ·obtain⟨j,hj,hx⟩:=hc
    exact ih j (by omega) hx
   ·exact⟨k,x,h1,h2,fun j hj y z hy hz e=>hc ⟨j,hj,y,hy,by rw[hz,e]⟩⟩
 obtain⟨k,hk⟩:=hex
 exact key k k (Nat.le_refl _) hk
section
variable {nn:Nat}
abbrev cmH (nn:Nat) (wv:List Int):List (Nat×Nat×SV):=[(1,0,.row 3 1 nn (ziV wv))]
theorem qxh {s:List Int} (hs:s.length=nn) (hl:nn≤1000000) (hd:s.Nodup):∀ (d k:Nat),k+1+d=nn→Rl 1 2 281 0 61 2 [(0,.ls 1 nn),(3,.pv (iV ((k+1:Nat):Int)))] (cmH nn s) (.exit 0) [(0,.ls 1 nn)] (cmH nn s):=by
 intro d
 induction d with
 | zero=>intro k hk;exact qB2 (decide_eq_false (by omega))
 | succ d ih=>
  intro k hk
  have hx:s[k+1]?=some s[k+1]:=List.getElem?_eq_getElem (by omega)
  have hy:s[k]?=some s[k]:=List.getElem?_eq_getElem (by omega)
  have hne:=qk6 hd hy hx
  exact qps hx (by omega) hy (by omega) (decide_eq_true (by omega)) (by rw[show ((k+1:Nat):Int)-1=(k:Int) by omega];exact qbl (by omega) (by omega)) (by simpa using fun e=>hne e.symm) (qaB (by omega)) (ih (k+1) (by omega))
theorem qw8 {k:Nat} (hl:nn≤1000000):∀ (d j c:Nat) (wv:List Int),k+(j+1)+d=nn→wv.length=nn→c≤k+j→∃ c' wv',c'<nn∧wv'.length=nn∧Rl 1 2 281 1 61 2 [(0,.ls 1 nn),(3,.pv (iV (c:Int))),(4,.lq 1 1 (0+k) (nn-k)),(5,.pv (iV ((j+1:Nat):Int)))] (cmH nn wv) (.exit 2) [(0,.ls 1 nn),(3,.pv (iV (c':Int)))] (cmH nn wv'):=by
 intro d
 induction d with
 | zero=>intro j c wv hd hw hc;exact⟨c,wv,by omega,hw,qCj (decide_eq_false (by omega))⟩
 | succ d ih=>
  intro j c wv hd hw hc
  have hx:wv[k+(j+1)]?=some wv[k+(j+1)]:=List.getElem?_eq_getElem (by omega)
  have hy:wv[k+j]?=some wv[k+j]:=List.getElem?_eq_getElem (by omega)
  have hm:iV (IntKind.i64.wrap (((j+1:Nat):Int)-1))=iV (j:Int):=by rw[show ((j+1:Nat):Int)-1=(j:Int) by omega];exact qbl (by omega) (by omega)
  by_cases e:wv[k+(j+1)]=wv[k+j]
  ·obtain⟨c',wv',h1,h2,r⟩:=ih (j+1) c wv (by omega) hw (by omega)
   exact⟨c',wv',h1,h2,qva (by omega) (by omega) hx hy (decide_eq_true (by omega)) hm (by simpa using e) (qaB (by omega)) r⟩
  ·obtain⟨c',wv',h1,h2,r⟩:=ih (j+1) (c+1) (wv.set c wv[k+(j+1)]) (by omega) (by rw[List.length_set];exact hw) (by omega)
   exact⟨c',wv',h1,h2,qC0 (by omega) (by omega) hx hy (decide_eq_true (by omega)) hm (by simpa using e) (by omega) (by omega) (qaB (by omega)) (qaB (by omega)) r⟩
theorem qrk {s:List Int} (hs:s.length=nn) (hl:nn≤1000000) {k:Nat} {x:Int} (h1:s[k]?=some x) (h2:s[k+1]?=some x) (hb:∀ j,j<k→∀ y z,s[j]?=some y→s[j+1]?=some z→z≠y) :
 ∃ c ys,c<nn∧∀ (d q:Nat),q+d=k→Rl 1 2 281 0 61 2 [(0,.ls 1 nn),(3,.pv (iV ((q+1:Nat):Int)))] (cmH nn s) .ret [(2,.lq 1 1 0 c)] [(1,0,.row 3 1 nn ys)]:=by
 have hk1:k+1<nn:=by rw[← hs];exact (List.getElem?_eq_some_iff.1 h2).1
 obtain⟨c,wv,hc,hw,r⟩:=qw8 (nn:=nn) (k:=k+1) hl (nn-(k+1+1)) 0 (k+1) s (by omega) hs (by omega)
 refine⟨c,qeH (ziV wv) ((0+c)*1) (qdh [iV 0] (nn-c)),hc,?_⟩
 have hrl:(qdh [iV 0] (nn-c)).length=nn-c:=by rw[qfg];simp
 intro d
 induction d with
 | zero=>
  intro q hq
  have:q=k:=by omega
  subst this
  exact qAU h2 (by omega) h1 (by omega) (decide_eq_true (by omega)) (by rw[show ((q+1:Nat):Int)-1=(q:Int) by omega];exact qbl (by omega) (by omega)) (by simp) (by omega) r (by omega) rfl (by omega) (by rw[hrl,qaG];omega)
 | succ d ih=>
  intro q hq
  have hx:s[q+1]?=some s[q+1]:=List.getElem?_eq_getElem (by omega)
  have hy:s[q]?=some s[q]:=List.getElem?_eq_getElem (by omega)
  have hne:=hb q (by omega) _ _ hy hx
  exact qps hx (by omega) hy (by omega) (decide_eq_true (by omega)) (by rw[show ((q+1:Nat):Int)-1=(q:Int) by omega];exact qbl (by omega) (by omega)) (by simpa using hne) (qaB (by omega)) (ih (q+1) (by omega))
end
def evB (x:Ev):Bool:=okB x.n x.d&&decide (0≤x.k∧x.k≤1000000)
theorem qmI {x:Ev} (hi:EvI x):evB x=true↔EvOk x:=by
 simp only[evB,Bool.and_eq_true,decide_eq_true_eq]
 exact⟨fun ⟨h1,h2,h3⟩=>⟨hi,h1,h2,h3⟩,fun h=>⟨h.ok,h.k0,h.k1⟩⟩
section
variable {ev:List Ev}
abbrev efT (ev:List Ev) (g:List Int) (k:Nat):List (Nat×SV):=[(0,.ls 0 ev.length),(3,.ls 1 g.length),(6,.ls 0 ev.length),(7,.pv (iV (ev.length:Int))),(8,.pv (iV (k:Int)))]
abbrev efH (ev:List Ev) (g:List Int):List (Nat×Nat×SV):=[(0,0,qar ev),(1,0,zrI g)]
theorem qnP (hl:ev.length≤999999) (h:∀ x∈ev,EvOk x):∀ (d k:Nat),k+d=ev.length→Rl 1 1 226 0 36 2 (efT ev ((ev.map (·.k)).take k) k) (efH ev ((ev.map (·.k)).take k)) (.exit 0) [(0,.ls 0 ev.length),(3,.ls 1 (ev.map (·.k)).length)] (efH ev (ev.map (·.k))):=by
 intro d
 induction d with
 | zero=>
  intro k hk
  rw[List.take_of_length_le (by rw[List.length_map];omega)]
  exact qAx (decide_eq_false (by omega))
 | succ d ih=>
  intro k hk
  have hx:ev[k]?=some ev[k]:=List.getElem?_eq_getElem (by omega)
  have ok:=h _ (List.getElem_mem (show k<ev.length by omega))
  have r:=ih (k+1) (by omega)
  rw[List.take_add_one,List.getElem?_map,hx] at r
  have hn:=qgY ev[k].k
  rw[decide_eq_true ⟨ok.k0,ok.k1⟩] at hn
  exact qmK hx (by omega) (decide_eq_true (by omega)) (qcd ok.i.1 ok.i.2 ok.ok) hn (by rw[List.length_take];omega) (qaB (by omega)) r
theorem qp1 (hl:ev.length≤999999) (hi:∀ x∈ev,EvI x):∀ (d k:Nat),k+d=ev.length→(∃ j x,k≤j∧ev[j]?=some x∧evB x=false)→Rl 1 1 226 0 36 2 (efT ev ((ev.map (·.k)).take k) k) (efH ev ((ev.map (·.k)).take k)) .ret [(2,.pv (.bool false))] []:=by
 intro d
 induction d with
 | zero=>intro k hk ⟨j,x,a,b,_⟩;have:=(List.getElem?_eq_some_iff.1 b).1;omega
 | succ d ih=>
  intro k hk ⟨j,x,a,b,c⟩
  have hx:ev[k]?=some ev[k]:=List.getElem?_eq_getElem (by omega)
  have oi:=hi _ (List.getElem_mem (show k<ev.length by omega))
  by_cases h1:okB ev[k].n ev[k].d=true
  ·have hc:=qcd oi.1 oi.2 h1
   by_cases h2:0≤ev[k].k∧ev[k].k≤1000000
   ·have hn:=qgY ev[k].k
    rw[decide_eq_true h2] at hn
    have r:=ih (k+1) (by omega) ⟨j,x,by
     rcases Nat.lt_or_ge k j with q | q
     ·exact q
     ·have e:k=j:=by omega
      subst e
      rw[hx] at b
      cases b
      simp[evB,h1,h2] at c,b,c⟩
    rw[List.take_add_one,List.getElem?_map,hx] at r
    exact qmK hx (by omega) (decide_eq_true (by omega)) hc hn (by rw[List.length_take];omega) (qaB (by omega)) r
   ·have hn:=qgY ev[k].k
    rw[decide_eq_false h2] at hn
    exact qAG hx (by omega) (decide_eq_true (by omega)) hc hn
  ·exact qzs hx (by omega) (decide_eq_true (by omega)) (qfq oi.1 oi.2 h1)
structure EvF (ev:List Ev):Prop where
 ok:∀ x∈ev,EvOk x
 nod:(ev.map (·.k)).Nodup
theorem qd3 (hl:ev.length≤999999) (h:EvF ev):Fn 226 1 [.ls 0 ev.length] [(0,0,qar ev)] (.pv (.bool true)) 0 []:=by
 have r:=qnP hl h.ok ev.length 0 (by omega)
 rw[List.take_zero] at r
 have hlen:(ev.map (·.k)).length=ev.length:=List.length_map _
 have hso:=qfh (ev.map (·.k)) (by omega)
 have hnd:(sortI (ev.map (·.k))).Nodup:=(qcr _).nodup_iff.2 h.nod
 have hsl:=qce (ev.map (·.k))
 by_cases h2:(ev.map (·.k)).length<2
 ·exact qi9 r hso (decide_eq_true (by omega)) (by simp)
 ·exact qjo r hso (decide_eq_false (by omega)) (qxh hsl (by omega) hnd ((ev.map (·.k)).length-1) 0 (by omega)) (by simp)
theorem qid (hl:ev.length≤999999) (hi:∀ x∈ev,EvI x) (h:¬ EvF ev):Fn 226 1 [.ls 0 ev.length] [(0,0,qar ev)] (.pv (.bool false)) 0 []:=by
 have hlen:(ev.map (·.k)).length=ev.length:=List.length_map _
 by_cases h1:∀ x∈ev,EvOk x
 ·have r:=qnP hl h1 ev.length 0 (by omega)
  rw[List.take_zero] at r
  have hso:=qfh (ev.map (·.k)) (by omega)
  have hnn:¬ (ev.map (·.k)).Nodup:=fun e=>h ⟨h1,e⟩
  have hnd:¬ (sortI (ev.map (·.k))).Nodup:=fun e=>hnn ((qcr _).nodup_iff.1 e)
  have hsl:=qce (ev.map (·.k))
  obtain⟨k,x,a1,a2,a3⟩:=qr0 (qkJ _) hnd
  have hk:k+1<(sortI (ev.map (·.k))).length:=(List.getElem?_eq_some_iff.1 a2).1
  obtain⟨c,ys,hc,hr⟩:=qrk hsl (by omega) a1 a2 a3
  exact qzC r hso (decide_eq_false (by omega)) (hr k 0 (by omega)) (by simp;omega)
 ·refine qFg ?_
  have r:=qp1 hl hi ev.length 0 (by omega) (by
   simp only[Classical.not_forall] at h1
   obtain⟨x,hx,hn⟩:=h1
   obtain⟨j,hj⟩:=List.mem_iff_getElem?.1 hx
   exact⟨j,x,by omega,hj,by
    cases e:evB x with
    | false=>rfl
    | true=>exact (hn ((qmI (hi x hx)).1 e)).elim⟩)
  rw[List.take_zero] at r
  exact r
end
structure VA (u:List Int) (b:List Bool) (fr:List Int) (ev:List Ev) (wh:List Int):Prop where
 vd:Vd u b fr
 wf:WhF u b ev wh
 ef:EvF ev
 hp:∀ k,1≤k→k<ev.length→qbL ev k=true
section
variable {u fr wh:List Int} {b:List Bool} {ev:List Ev}
theorem VA.lens (h:VA u b fr ev wh):u.length≤200∧b.length=u.length∧wh.length=u.length∧ev.length≤200∧fr.length≤200∧1≤u.length:=by
 have h1:=h.vd.le
 have h2:=h.vd.len
 have h3:=h.wf.len
 have h4:=h.wf.cnt
 have h5:=List.count_le_length (a:=true) (l:=b)
 have h6:=h.vd.frlen
 have h7:=h.vd.pos
 omega
theorem qcX (h:VA u b fr ev wh):Fn 177 5 [agA u b fr ev wh] (agP u b fr ev wh) (.pv (iV 0)) 0 []:=by
 have hl:=h.lens
 exact qCb (qbY h.vd) (qcE (by omega) (by omega) h.wf) (qd3 (by omega) h.ef) (ql7 h.ef.ok (by omega) h.hp)
theorem qlz (hf:fr.length≤1000000) (he:ev.length≤999999) (hi:∀ x∈ev,EvI x) (h:¬ VA u b fr ev wh):Fn 177 5 [agA u b fr ev wh] (agP u b fr ev wh) (.pv (iV 8)) 0 []:=by
 by_cases h1:Vd u b fr
 ·have a1:=h1.le
  have a2:=h1.len
  by_cases h2:WhF u b ev wh
  ·by_cases h3:EvF ev
   ·refine qCc (qbY h1) (qcE (by omega) (by omega) h2) (qd3 he h3) (qnL h3.ok (by omega) ?_)
    apply Classical.byContradiction
    intro hn
    exact h ⟨h1,h2,h3,fun k b1 b2=>by
     cases e:qbL ev k with
     | true=>rfl
     | false=>exact (hn ⟨k,b1,b2,e⟩).elim⟩
   ·exact qCU (qbY h1) (qcE (by omega) (by omega) h2) (qid he hi h3)
  ·exact qAj (qbY h1) (qhO (by omega) (by omega) h2)
 ·exact qC7 (qlX hf h1)
end
end Go.Proofs.YtkckcgpmnipnaaaGreat

namespace Go.Proofs.YtkckcgpmnipnaaaGreat
set_option maxRecDepth 100000
open Go.RowKit
theorem qpE (n:Nat):SV.ls 2 (0+n)=(SV.ls 1 n).ren (qaK [(1,2)]):=by rw[Nat.zero_add];rfl
theorem qgU (e:TypeId) (es n:Nat) (xs:List Value):some (SV.row e es (0+n) ([]++xs))=some (SV.row e es n xs):=by rw[Nat.zero_add,List.nil_append]
theorem qtl {n:Nat} {xs:List Value} (h0:0<n) (hn:0+n≤1000000) :
 Fn 143 1 [.ls 0 n] [(0,0,.row 61 5 n xs)] (.ls 1 n) 1 [(1,0,.row 61 5 n xs)]:=
 Fx [(1,2)] [.t false]
  (qpE n) (Ai (qgU 61 5 n xs) tI) (Ai h0 (Ai hn tI))
theorem qFw {ad:Addr} {c:Nat} :
 Fn 143 0 [.pv (.slice (some ad) 0 c)] [] (.ls 0 0) 1 [(0,0,.row 61 5 0 [])]:=
 Fz [(0,1)] [.k]
  (qaE (qaK [(0,1)]) [(0,0,.row 61 5 0 [])]) (Ai (Nat.zero_le _:0+0≤1000000) tI)
theorem qvY {c:Nat}:Pure Tryz.prog 143 #[.slice none 0 c] (.slice none 0 0):=
 qax (args:=[.slice none 0 c]) 200 [] (Ai rfl tI) (by kernel_rfl)
theorem qof {l:List Bool} (h0:0<l.length) (hn:0+l.length≤1000000) :
 Fn 140 1 [.ls 0 l.length] [(0,0,zrB l)] (.ls 1 l.length) 1 [(1,0,zrB l)]:=
 Fx [(1,2)] [.t false]
  (qpE l.length) (Ai (qgU 4 1 l.length (zbV l)) tI) (Ai h0 (Ai hn tI))
theorem qB8 {ad:Addr} {c:Nat} :
 Fn 140 0 [.pv (.slice (some ad) 0 c)] [] (.ls 0 0) 1 [(0,0,.row 4 1 0 [])]:=
 Fz [(0,1)] [.k]
  (qaE (qaK [(0,1)]) [(0,0,.row 4 1 0 [])]) (Ai (Nat.zero_le _:0+0≤1000000) tI)
theorem qr9 {c:Nat}:Pure Tryz.prog 140 #[.slice none 0 c] (.slice none 0 0):=
 qax (args:=[.slice none 0 c]) 200 [] (Ai rfl tI) (by kernel_rfl)
theorem qDk (n:Nat):SV.ls 5 (0+n+1)=(SV.ls 3 (n+1)).ren (qaK [(3,5)]):=by rw[Nat.zero_add];rfl
theorem qqM (l:List Ev) (x:Ev):some (SV.row 61 5 (0+l.length+1) ([]++qbf l++ecV x))=some (SV.row 61 5 (l.length+1) (qbf (l++[x]))):=by rw[Nat.zero_add,List.nil_append,qcD];rfl
theorem qFS {z:Int} (h0:decide (z<0)=false) (hs:iV (IntKind.i64.wrap (z-0))=iV (z)) (hg:decide (z>0)=true) (a0:0≤z) (a1:z≤1000000) :
 Fn 349 0 [.pv (.slice none 0 0),.pv (iV (z))] [] (.ls 0 0) 1 [(0,0,.row 61 5 0 [])]:=
 Fz [(0,1)] [.t false,.k,Re hs,.t true,.w []]
  (qaE (qaK [(0,1)]) [(0,0,.row 61 5 0 [])]) (Ai h0 (Ai hs (Ai hg (Ai a0 (Ai a1 (Ai (Int.le_refl (0:Int)) (Ai (Nat.zero_le z.toNat) tI)))))))
abbrev qHC (ev:List Ev) (x:Ev):HpL:=[(2,0,.ls 0 ev.length),(2,1,.ps 1 0 1 1),(1,0,.pv (iV x.n)),(1,1,.pv (iV x.d)),(1,2,.pv (iV x.k)),(1,3,.pv (iV x.i)),(1,4,.pv (iV x.w)),(0,0,qar ev)]
theorem qHU {ev:List Ev} {x:Ev} (q1:iV (IntKind.i64.wrap ((0:Int)+(ev.length:Int)))=iV (ev.length:Int)) (n1:decide ((ev.length:Int)<0)=false) (q2:iV (IntKind.i64.wrap ((ev.length:Int)+1))=iV (((ev.length+1:Nat):Int))) (n2:decide (((ev.length+1:Nat):Int)<0)=false) (hgr:Fn 349 0 [.pv (.slice none 0 0),.pv (iV (((ev.length+1:Nat):Int)))] [] (.ls 0 0) 1 [(0,0,.row 61 5 0 [])]) (a1:0+ev.length≤1000000) (a2:0+ev.length+1≤1000000) :
 Fn 339 3 [.ps 2 0 2 2] (qHC ev x) (.ls 3 (ev.length+1)) 1 [(3,0,.row 61 5 (ev.length+1) (qbf (ev++[x])))]:=
 Fx [(3,5)] [.k,Re q1,.t false,.k,.k,Re q2,.t false,.k,.k,Cf hgr [],.k,.k,.k,.k,.k]
  (qDk ev.length) (Ai (qqM ev x) tI) (Ai q1 (Ai n1 (Ai q2 (Ai n2 (Co hgr [] 3 (Ai a1 (Ai a2 tI)))))))
abbrev qE0 (b2:List Bool) (ev:List Ev) (f2:List Int) (mm:Nat) (n:Nat) (u2:List Int) (wh:List Int):HpL:=[(19,0,.ls 5 u2.length),(19,1,.ls 6 b2.length),(19,2,.ls 7 f2.length),(19,3,.ls 14 n),(19,4,.ls 15 mm),(16,0,.ls 5 u2.length),(16,1,.ls 6 b2.length),(16,2,.ls 7 f2.length),(16,3,.ls 14 n),(16,4,.ls 15 mm),(11,0,.pv (.slice none 0 0)),(11,1,.pv (.slice none 0 0)),(11,2,.pv (.slice none 0 0)),(11,3,.pv (.slice none 0 0)),(11,4,.pv (.slice none 0 0)),(14,0,.row 61 5 n (qbf (ev))),(15,0,.row 3 1 mm (ziV (wh)))]
theorem qk0 {wh u2 f2:List Int} {b2:List Bool} {ev:List Ev} {x y:Ev} {k j n mm:Nat} (hin_x:0≤(k:Int)∧(k:Int)<(n:Int)) (he_x:ev[k]?=some x) (hin_y:0≤(j:Int)∧(j:Int)<(n:Int)) (he_y:ev[j]?=some y) (h0:decide ((k:Int)>0)=true) (hp:Pure Tryz.prog 283 #[iV (k:Int)] (iV (j:Int))) (hl:Pure Tryz.prog 282 #[qae x,qae y] (.bool true)) (hla:k<(ev).length) (hwb:0≤y.i∧y.i<(mm:Int)) (hwbl:y.i.toNat<(wh).length) (hlb:j<((ev).set k y).length) (hwa:0≤x.i∧x.i<(mm:Int)) (hwal:x.i.toNat<((wh).set y.i.toNat (k:Int)).length) {e:Exit} {tm2:TmL} {hp2:HpL}
 (r:Rl 8 19 334 0 29 20 ([(1,.pv (iV (j:Int))),(2,.pp 19 0)]) ([(19,0,.ls 5 u2.length),(19,1,.ls 6 b2.length),(19,2,.ls 7 f2.length),(19,3,.ls 14 n),(19,4,.ls 15 mm),(16,0,.ls 5 u2.length),(16,1,.ls 6 b2.length),(16,2,.ls 7 f2.length),(16,3,.ls 14 n),(16,4,.ls 15 mm),(11,0,.pv (.slice none 0 0)),(11,1,.pv (.slice none 0 0)),(11,2,.pv (.slice none 0 0)),(11,3,.pv (.slice none 0 0)),(11,4,.pv (.slice none 0 0)),(14,0,.row 61 5 n (qbf (((ev).set k y).set j x))),(15,0,.row 3 1 mm (ziV (((wh).set y.i.toNat (k:Int)).set x.i.toNat (j:Int))))]) e tm2 hp2):Rl 8 19 334 0 29 20 ([(1,.pv (iV (k:Int))),(2,.pp 19 0)]) (qE0 b2 ev f2 mm n u2 wh) e tm2 hp2:=
 RunsL.next [] 300 [.t true,.r (qae x),Rf hp,.r (qae y),Rf hl,Rf hp,.k,.r (qae x),.r (qae y),.k,.w (qbf ((ev).set k y)),.w (ziV ((wh).set y.i.toNat (k:Int))),.k,.w (qbf (((ev).set k y).set j x)),.w (ziV (((wh).set y.i.toNat (k:Int)).set x.i.toNat (j:Int))),Rf hp]
  (Ro (Ai h0 (Ai hin_x (Ai (qcw he_x) (Ai hp (Ai hin_y (Ai (qcw he_y) (Ai hl (Ai hp (Ai hin_x (Ai (qcw he_x) (Ai hin_y (Ai (qcw he_y) (Ai hin_x (Ai (qzg (ev) k y hla) (Ai (qmT (ev) k hla) (Ai hwb (Ai (qmi (wh) y.i.toNat (k:Int) hwbl) (Ai (qcK (wh) y.i.toNat hwbl) (Ai hin_y (Ai (qzg ((ev).set k y) j x hlb) (Ai (qmT ((ev).set k y) j hlb) (Ai hwa (Ai (qmi ((wh).set y.i.toNat (k:Int)) x.i.toNat (j:Int) hwal) (Ai (qcK ((wh).set y.i.toNat (k:Int)) x.i.toNat hwal) (Ai hp tI)))))))))))))))))))))))))) r
abbrev qHr (b2:List Bool) (ev:List Ev) (f2:List Int) (mm:Nat) (n:Nat) (u2:List Int) (wh:List Int):HpL:=[(16,0,.ls 5 u2.length),(16,1,.ls 6 b2.length),(16,2,.ls 7 f2.length),(16,3,.ls 14 n),(16,4,.ls 15 mm),(11,0,.pv (.slice none 0 0)),(11,1,.pv (.slice none 0 0)),(11,2,.pv (.slice none 0 0)),(11,3,.pv (.slice none 0 0)),(11,4,.pv (.slice none 0 0)),(14,0,.row 61 5 n (qbf (ev))),(15,0,.row 3 1 mm (ziV (wh)))]
theorem qma {wh u2 f2:List Int} {b2:List Bool} {ev:List Ev} {x y:Ev} {k j n mm:Nat} (hin_x:0≤(k:Int)∧(k:Int)<(n:Int)) (he_x:ev[k]?=some x) (hin_y:0≤(j:Int)∧(j:Int)<(n:Int)) (he_y:ev[j]?=some y) (h0:decide ((k:Int)>0)=true) (hp:Pure Tryz.prog 283 #[iV (k:Int)] (iV (j:Int))) (hl:Pure Tryz.prog 282 #[qae x,qae y] (.bool false)):Rl 8 19 334 0 29 20 ([(1,.pv (iV (k:Int))),(2,.pp 19 0)]) (qE0 b2 ev f2 mm n u2 wh) (.exit 0) ([(1,.pv (iV (k:Int)))]) (qHr b2 ev f2 mm n u2 wh):=
 RunsL.stop [] 300 [.t true,.r (qae x),Rf hp,.r (qae y),Rf hl] (fun h=>by cases h)
  (Ro (Ai h0 (Ai hin_x (Ai (qcw he_x) (Ai hp (Ai hin_y (Ai (qcw he_y) (Ai hl tI))))))))
theorem qlO {wh u2 f2:List Int} {b2:List Bool} {ev:List Ev} {k n mm:Nat} (h0:decide ((k:Int)>0)=false):Rl 8 19 334 0 29 20 ([(1,.pv (iV (k:Int))),(2,.pp 19 0)]) (qE0 b2 ev f2 mm n u2 wh) (.exit 0) ([(1,.pv (iV (k:Int)))]) (qHr b2 ev f2 mm n u2 wh):=
 RunsL.stop [] 300 [.t false] (fun h=>by cases h)
  (Ro (Ai h0 tI))
theorem qw6 {u fr wh u2 f2 wh3:List Int} {b b2:List Bool} {ev ev3:List Ev} {x:Ev} {k n p:Nat} (hcat:Fn 339 3 [.ps 2 0 2 2] (qHC ev x) (.ls 3 (ev.length+1)) 1 [(3,0,.row 61 5 (ev.length+1) (qbf (ev++[x])))]) (hcl:Fn 63 1 [.ls 0 wh.length] [(0,0,zrI wh)] (.ls 1 wh.length) 1 [(1,0,zrI wh)]) (hin:0≤(ev.length:Int)∧(ev.length:Int)<((ev.length+1:Nat):Int)) (hset:ev.length<(ev++[x]).length) (hwi:0≤x.i∧x.i<(wh.length:Int)) (hwset:x.i.toNat<wh.length) (r0:Rl 8 19 334 0 29 20 ([(1,.pv (iV (ev.length:Int))),(2,.pp 19 0)]) ([(19,0,.ls 5 u2.length),(19,1,.ls 6 b2.length),(19,2,.ls 7 f2.length),(19,3,.ls 14 (ev.length+1)),(19,4,.ls 15 wh.length),(16,0,.ls 5 u2.length),(16,1,.ls 6 b2.length),(16,2,.ls 7 f2.length),(16,3,.ls 14 (ev.length+1)),(16,4,.ls 15 wh.length),(11,0,.pv (.slice none 0 0)),(11,1,.pv (.slice none 0 0)),(11,2,.pv (.slice none 0 0)),(11,3,.pv (.slice none 0 0)),(11,4,.pv (.slice none 0 0)),(14,0,.row 61 5 (ev.length+1) (qbf ((ev++[x]).set ev.length x))),(15,0,.row 3 1 wh.length (ziV (wh.set x.i.toNat (ev.length:Int))))]) (.exit 0) ([(1,.pv (iV (p:Int)))]) ([(16,0,.ls 5 u2.length),(16,1,.ls 6 b2.length),(16,2,.ls 7 f2.length),(16,3,.ls 14 (ev.length+1)),(16,4,.ls 15 wh.length),(11,0,.pv (.slice none 0 0)),(11,1,.pv (.slice none 0 0)),(11,2,.pv (.slice none 0 0)),(11,3,.pv (.slice none 0 0)),(11,4,.pv (.slice none 0 0)),(14,0,.row 61 5 (ev.length+1) (qbf (ev3))),(15,0,.row 3 1 wh.length (ziV (wh3)))])) :
 Fn 316 8 [agA u b fr ev wh,.ag [.ls 5 u2.length,.ls 6 b2.length,.ls 7 f2.length],.pv (qae x)] [(0,0,zrI u),(1,0,zrB b),(2,0,zrI fr),(3,0,qar ev),(4,0,zrI wh),(5,0,zrI u2),(6,0,zrB b2),(7,0,zrI f2)] (.ag [.ls 5 u2.length,.ls 6 b2.length,.ls 7 f2.length,.ls 8 (ev.length+1),.ls 9 wh.length]) 2 [(8,0,.row 61 5 (ev.length+1) (qbf (ev3))),(9,0,.row 3 1 wh.length (ziV (wh3)))]:=
 Fz [(8,14),(9,15)] [.md,Cf hcat [3,12,13],Cf hcl [4],.k,.w (qbf ((ev++[x]).set ev.length x)),.w (ziV ((wh).set x.i.toNat (ev.length:Int))),.k,Lf r0]
  (qaE (qaK [(8,14),(9,15)]) [(8,0,.row 61 5 (ev.length+1) (qbf (ev3))),(9,0,.row 3 1 wh.length (ziV (wh3)))]) (Co hcat [3,12,13] 14 (Co hcl [4] 15 (Ai hin (Ai (qzg (ev++[x]) ev.length x hset) (Ai (qmT (ev++[x]) ev.length hset) (Ai hwi (Ai (qmi (wh) x.i.toNat (ev.length:Int) hwset) (Ai (qcK (wh) x.i.toNat hwset) (Lo r0 [] tI)))))))))
end Go.Proofs.YtkckcgpmnipnaaaGreat

namespace Go.Proofs.YtkckcgpmnipnaaaGreat
set_option maxRecDepth 100000
open Go.RowKit
end Go.Proofs.YtkckcgpmnipnaaaGreat

namespace Go.Proofs.YtkckcgpmnipnaaaGreat
set_option maxRecDepth 100000
open Go.RowKit
theorem qzK {e1 e2 e3:Int} (g1:(!(e1==0))=false) (g2:(!(e2==0))=false) (g3:(!(e3==0))=false) :
 Fn 269 1 [.ps 0 0 3 3] [(0,0,.pv (iV e1)),(0,1,.pv (iV e2)),(0,2,.pv (iV e3))] (.pv (iV (0))) 0 []:=
 Fz [] [.k,.t false,.k,.k,.t false,.k,.k,.t false,.k,.k]
  tI (Ai g1 (Ai g2 (Ai g3 tI)))
abbrev qpB (b:List Bool) (ev:List Ev) (fr:List Int) (u:List Int) (wh:List Int):HpL:=[(0,0,zrI u),(1,0,zrB b),(2,0,zrI fr),(3,0,qar ev),(4,0,zrI wh)]
theorem qzv {u fr wh:List Int} {b:List Bool} {ev:List Ev} {z:Int} (hn:Pure Tryz.prog 280 #[iV (z)] (.bool false)) :
 Fn 314 5 [agA u b fr ev wh,.pv (iV (z))] (qpB b ev fr u wh) (.pv (iV (2))) 0 []:=
 Fz [] [Rf hn,.k]
  tI (Ai hn tI)
abbrev qFK (ev:List Ev) (k:Nat):TmL:=[(0,.ls 3 ev.length),(1,.pc 336 [.pp 6 0]),(7,.pv (iV (ev.length:Int))),(8,.pv (iV (k:Int)))]
theorem qnm {ev:List Ev} {m:Ev} {z:Int} {k:Nat} (hk:ev[k]?=some m) (hin:0≤(k:Int)∧(k:Int)<(ev.length:Int)) (hlt:decide ((k:Int)<(ev.length:Int))=true) (hq:(m.k==z)=false) (hs:iV (IntKind.i64.wrap ((k:Int)+1))=iV (((k+1:Nat):Int))) {e:Exit} {tm2:TmL} {hp2:HpL}
 (r:Rl 5 7 346 0 19 7 ([(0,.ls 3 ev.length),(1,.pc 336 [.pp 6 0]),(7,.pv (iV (ev.length:Int))),(8,.pv (iV ((k+1:Nat):Int)))]) ([(6,0,.pv (iV z)),(3,0,qar ev)]) e tm2 hp2):Rl 5 7 346 0 19 7 (qFK ev k) ([(6,0,.pv (iV z)),(3,0,qar ev)]) e tm2 hp2:=
 RunsL.next [] 300 [.t true,.r (qae m),.k,.t false,Re hs]
  (Ro (Ai hlt (Ai hin (Ai (qcw hk) (Ai hq (Ai hs tI)))))) r
theorem qBE {ev:List Ev} {m:Ev} {z:Int} {k:Nat} (hk:ev[k]?=some m) (hin:0≤(k:Int)∧(k:Int)<(ev.length:Int)) (hlt:decide ((k:Int)<(ev.length:Int))=true) (hq:(m.k==z)=true):Rl 5 7 346 0 19 7 (qFK ev k) ([(6,0,.pv (iV z)),(3,0,qar ev)]) (.ret) ([(4,.pv (iV (k:Int)))]) ([]):=
 RunsL.stop [] 300 [.t true,.r (qae m),.k,.t true] (fun h=>by cases h)
  (Ro (Ai hlt (Ai hin (Ai (qcw hk) (Ai hq tI)))))
theorem qAZ {ev:List Ev} {z:Int} {k:Nat} (hge:decide ((k:Int)<(ev.length:Int))=false):Rl 5 7 346 0 19 7 (qFK ev k) ([(6,0,.pv (iV z)),(3,0,qar ev)]) (.exit 0) ([]) ([]):=
 RunsL.stop [] 300 [.t false] (fun h=>by cases h)
  (Ro (Ai hge tI))
theorem qsd {u fr wh:List Int} {b:List Bool} {ev:List Ev} {z:Int} {k:Nat} (hn:Pure Tryz.prog 280 #[iV (z)] (.bool true)) (r0:Rl 5 7 346 0 19 7 ([(0,.ls 3 ev.length),(1,.pc 336 [.pp 6 0]),(7,.pv (iV (ev.length:Int))),(8,.pv (iV ((0:Nat):Int)))]) ([(6,0,.pv (iV z)),(3,0,qar ev)]) (.ret) ([(4,.pv (iV (k:Int)))]) ([])) (h0:decide ((k:Int)≥0)=true) :
 Fn 314 5 [agA u b fr ev wh,.pv (iV (z))] (qpB b ev fr u wh) (.pv (iV (14))) 0 []:=
 Fz [] [Rf hn,.k,.k,.k,Lf r0,.t true]
  tI (Ai hn (Lo r0 [] (Ai h0 tI)))
theorem qGP {u fr wh:List Int} {b:List Bool} {ev:List Ev} {z:Int} (hn:Pure Tryz.prog 280 #[iV (z)] (.bool true)) (r0:Rl 5 7 346 0 19 7 ([(0,.ls 3 ev.length),(1,.pc 336 [.pp 6 0]),(7,.pv (iV (ev.length:Int))),(8,.pv (iV ((0:Nat):Int)))]) ([(6,0,.pv (iV z)),(3,0,qar ev)]) (.exit 0) ([]) ([])) :
 Fn 314 5 [agA u b fr ev wh,.pv (iV (z))] (qpB b ev fr u wh) (.pv (iV (0))) 0 []:=
 Fz [] [Rf hn,.k,.k,.k,Lf r0,.k]
  tI (Ai hn (Lo r0 [] tI))
abbrev qD4 (b:List Bool) (ev:List Ev) (fr:List Int) (u:List Int) (wh:List Int):Prop:=Fn 177 5 [agA u b fr ev wh] (qpB b ev fr u wh) (.pv (iV (0))) 0 []
theorem qx3 {u fr wh:List Int} {b:List Bool} {ev:List Ev} (hc:qD4 b ev fr u wh) (h0:((ev.length:Int)==0)=true) :
 Fn 113 5 [agA u b fr ev wh] (qpB b ev fr u wh) (.pv (.tuple #[.agg #[iV 0,iV 0,iV 0,iV 0,iV 0],iV 42])) 0 []:=
 Fz [] [Cf hc [0,1,2,3,4],.k,.t true]
  tI (Co hc [0,1,2,3,4] 7 (Ai h0 tI))
theorem qGj {u fr wh:List Int} {b:List Bool} {ev:List Ev} {x:Ev} (hc:qD4 b ev fr u wh) (h0:((ev.length:Int)==0)=false) (hx:ev[0]?=some x) (hin:0≤(0:Int)∧(0:Int)<(ev.length:Int)) :
 Fn 113 5 [agA u b fr ev wh] (qpB b ev fr u wh) (.pv (.tuple #[qae x,iV 0])) 0 []:=
 Fz [] [Cf hc [0,1,2,3,4],.k,.t false,.r (qae x)]
  tI (Co hc [0,1,2,3,4] 7 (Ai h0 (Ai hin (Ai (qcw hx) tI))))
abbrev qHb:Prop:=Fn 269 1 [.ps 0 0 3 3] [(0,0,.pv (iV (0))),(0,1,.pv (iV (0))),(0,2,.pv (iV (0)))] (.pv (iV (0))) 0 []
theorem qyO {u fr wh:List Int} {b:List Bool} {ev:List Ev} {z tn td:Int} (hc:qD4 b ev fr u wh) (hr:Pure Tryz.prog 101 #[qaa tn td] (iV (0))) (hn:Fn 314 5 [agA u b fr ev wh,.pv (iV (z))] (qpB b ev fr u wh) (.pv (iV (0))) 0 []) (hfe:qHb) (htk:Fn 315 3 [.ag [.ls 0 u.length,.ls 1 b.length,.ls 2 fr.length]] [(0,0,zrI u),(1,0,zrB b),(2,0,zrI fr)] (.pv (.tuple #[.agg #[.slice none 0 0,.slice none 0 0,.slice none 0 0],.agg #[iV 0,iV 0],iV 18])) 0 []) :
 Fn 272 5 [agA u b fr ev wh,.pv (qaa tn td),.pv (iV (z))] (qpB b ev fr u wh) (.pv (.tuple #[.agg #[.slice none 0 0,.slice none 0 0,.slice none 0 0,.slice none 0 0,.slice none 0 0],.agg #[iV 0,iV 0],iV 18])) 0 []:=
 Fz [] [.md,Cf hc [0,1,2,3,4],Rf hr,Cf hn [0,1,2,3,4],Cf hfe [9],.k,Cf htk [0,1,2],.k]
  tI (Co hc [0,1,2,3,4] 9 (Ai hr (Co hn [0,1,2,3,4] 9 (Co hfe [9] 10 (Co htk [0,1,2] 10 tI)))))
theorem qGS {u fr wh u2 f2 wh3:List Int} {b b2:List Bool} {ev ev3:List Ev} {z tn td hi hw:Int} (hc:qD4 b ev fr u wh) (hr:Pure Tryz.prog 101 #[qaa tn td] (iV (0))) (hn:Fn 314 5 [agA u b fr ev wh,.pv (iV (z))] (qpB b ev fr u wh) (.pv (iV (0))) 0 []) (hfe:qHb) (htk:Fn 315 3 [.ag [.ls 0 u.length,.ls 1 b.length,.ls 2 fr.length]] [(0,0,zrI u),(1,0,zrB b),(2,0,zrI fr)] (.tu [.ag [.ls 3 u2.length,.ls 4 b2.length,.ls 5 f2.length],.one (.pv (qbb hi hw)),.one (.pv (iV 0))]) 3 [(3,0,zrI u2),(4,0,zrB b2),(5,0,zrI f2)]) (hpu:Fn 316 8 [agA u b fr ev wh,.ag [.ls 5 u2.length,.ls 6 b2.length,.ls 7 f2.length],.pv (qae (Ev.mk tn td z hi hw))] [(0,0,zrI u),(1,0,zrB b),(2,0,zrI fr),(3,0,qar ev),(4,0,zrI wh),(5,0,zrI u2),(6,0,zrB b2),(7,0,zrI f2)] (.ag [.ls 5 u2.length,.ls 6 b2.length,.ls 7 f2.length,.ls 8 ev3.length,.ls 9 wh3.length]) 2 [(8,0,qar ev3),(9,0,zrI wh3)]) :
 Fn 272 5 [agA u b fr ev wh,.pv (qaa tn td),.pv (iV (z))] (qpB b ev fr u wh) (.tu [.ag [.ls 5 u2.length,.ls 6 b2.length,.ls 7 f2.length,.ls 8 ev3.length,.ls 9 wh3.length],.one (.pv (qbb hi hw)),.one (.pv (iV 0))]) 5 [(5,0,zrI u2),(6,0,zrB b2),(7,0,zrI f2),(8,0,qar ev3),(9,0,zrI wh3)]:=
 Fz [(5,10),(6,11),(7,12),(8,16),(9,17)] [.md,Cf hc [0,1,2,3,4],Rf hr,Cf hn [0,1,2,3,4],Cf hfe [9],.k,Cf htk [0,1,2],.k,.gh [(5,0),(5,1),(5,2),(5,3),(5,4),(13,0),(13,1),(13,2),(15,0),(15,1),(15,2),(15,3),(15,4),(14,0),(14,1)],Cf hpu [0,1,2,3,4,10,11,12]]
  (qaE (qaK [(5,10),(6,11),(7,12),(8,16),(9,17)]) [(5,0,zrI u2),(6,0,zrB b2),(7,0,zrI f2),(8,0,qar ev3),(9,0,zrI wh3)]) (Co hc [0,1,2,3,4] 9 (Ai hr (Co hn [0,1,2,3,4] 9 (Co hfe [9] 10 (Co htk [0,1,2] 10 (Co hpu [0,1,2,3,4,10,11,12] 16 (Ai (Er (SV.ls 0 u.length)) (Ai (Er (SV.ls 1 b.length)) (Ai (Er (SV.ls 2 fr.length)) (Ai (Er (SV.ls 3 ev.length)) (Ai (Er (SV.ls 4 wh.length)) (Ai (Er (SV.ls 10 u2.length)) (Ai (Er (SV.ls 11 b2.length)) (Ai (Er (SV.ls 12 f2.length)) (Ai (Er (SV.pv (iV tn))) (Ai (Er (SV.pv (iV td))) (Ai (Er (SV.pv (iV z))) (Ai (Er (SV.pv (iV hi))) (Ai (Er (SV.pv (iV hw))) (Ai (Er (SV.pv (iV hi))) (Ai (Er (SV.pv (iV hw))) (Ai (Er (SV.ls 0 u.length)) (Ai (Er (SV.ls 1 b.length)) (Ai (Er (SV.ls 2 fr.length)) (Ai (Er (SV.ls 3 ev.length)) (Ai (Er (SV.ls 4 wh.length)) (Ai (Er (SV.ls 10 u2.length)) (Ai (Er (SV.ls 11 b2.length)) (Ai (Er (SV.ls 12 f2.length)) (Ai (Er (SV.pv (iV tn))) (Ai (Er (SV.pv (iV td))) (Ai (Er (SV.pv (iV z))) (Ai (Er (SV.pv (iV hi))) (Ai (Er (SV.pv (iV hw))) (Ai (Er (SV.pv (iV hi))) (Ai (Er (SV.pv (iV hw))) (Ai (Er (SV.ls 0 u.length)) (Ai (Er (SV.ls 1 b.length)) (Ai (Er (SV.ls 2 fr.length)) (Ai (Er (SV.ls 3 ev.length)) (Ai (Er (SV.ls 4 wh.length)) (Ai (Er (SV.ls 10 u2.length)) (Ai (Er (SV.ls 11 b2.length)) (Ai (Er (SV.ls 12 f2.length)) (Ai (Er (SV.pv (iV tn))) (Ai (Er (SV.pv (iV td))) (Ai (Er (SV.pv (iV z))) (Ai (Er (SV.pv (iV hi))) (Ai (Er (SV.pv (iV hw))) (Ai (Er (SV.pv (iV hi))) (Ai (Er (SV.pv (iV hw))) (Ai (Er (SV.ls 0 u.length)) (Ai (Er (SV.ls 1 b.length)) (Ai (Er (SV.ls 2 fr.length)) (Ai (Er (SV.ls 3 ev.length)) (Ai (Er (SV.ls 4 wh.length)) (Ai (Er (SV.ls 10 u2.length)) (Ai (Er (SV.ls 11 b2.length)) (Ai (Er (SV.ls 12 f2.length)) (Ai (Er (SV.pv (iV tn))) (Ai (Er (SV.pv (iV td))) (Ai (Er (SV.pv (iV z))) (Ai (Er (SV.pv (iV hi))) (Ai (Er (SV.pv (iV hw))) (Ai (Er (SV.pv (iV hi))) (Ai (Er (SV.pv (iV hw))) tI))))))))))))))))))))))))))))))))))))))))))))))))))))))))))))))))))
end Go.Proofs.YtkckcgpmnipnaaaGreat

namespace Go.Proofs.YtkckcgpmnipnaaaGreat
set_option maxRecDepth 100000
open Go.RowKit
theorem qtc {x y a b:Int} (h:Pure Tryz.prog 264 #[.int .u64 x,.int .u64 y] (.tuple #[.int .u64 a,.int .u64 b])):Pure Tryz.prog 214 #[.int .u64 x,.int .u64 y] (.tuple #[.int .u64 a,.int .u64 b]):=
 qax (args:=[.int .u64 x,.int .u64 y]) 300 [Rf h] (Ai rfl (Ai h tI)) (by kernel_rfl)
theorem qxg {g wv:List Int} {k j n:Nat} (hk0:0≤(k:Int)) (hkn:k≤n) (hlt:decide ((k:Int)<(n:Int))=true) (hys:ziV wv=qeH (ziV g) ((0+k)*1) (List.take (Nat.min k (n-k)*1) (List.take (k*1) (List.drop (0*1) (ziV g))))) (hpos:0<Nat.min k (n-k)) (hin:(0+k)*1+(List.take (Nat.min k (n-k)*1) (List.take (k*1) (List.drop (0*1) (ziV g)))).length≤(ziV g).length) (hs:iV (IntKind.i64.wrap ((k:Int)+((Nat.min k (n-k):Nat):Int)))=iV (j:Int)) {e:Exit} {tm2:TmL} {hp2:HpL}
 (r:Rl 1 1 171 0 48 2 ([(7,.ls 1 n),(8,.pv (iV (j:Int)))]) ([(1,0,.row 3 1 n (ziV (wv)))]) e tm2 hp2):Rl 1 1 171 0 48 2 ([(7,.ls 1 n),(8,.pv (iV (k:Int)))]) ([(1,0,.row 3 1 n (ziV (g)))]) e tm2 hp2:=
 RunsL.next [] 300 [.t true,.gr,.k,.k,.w (ziV wv),.r (iV (j:Int))]
  (Ro (Ai hlt (Ai hk0 (Ai tI (Ai hkn (Ai (Nat.le_refl n) (Ai tI (Ai hk0 (Ai (Nat.zero_le k) (Ai hkn (Ai hys (Ai hpos (Ai hin (Ai hs tI)))))))))))))) r
theorem quf {g:List Int} {k n:Nat} (hge:decide ((k:Int)<(n:Int))=false):Rl 1 1 171 0 48 2 ([(7,.ls 1 n),(8,.pv (iV (k:Int)))]) ([(1,0,.row 3 1 n (ziV (g)))]) (.exit 0) ([(7,.ls 1 n)]) ([(1,0,.row 3 1 n (ziV (g)))]):=
 RunsL.stop [] 300 [.t false] (fun h=>by cases h)
  (Ro (Ai hge tI))
theorem qy1 {g wv:List Int} {z:Int} {n:Nat} (h0:decide ((n:Int)<0)=false) (hu:Value.int .u64 (IntKind.u64.wrap (n:Int))=.int .u64 (n:Int)) (hm:Pure Tryz.prog 214 #[.int .u64 1,.int .u64 (n:Int)] (.tuple #[.int .u64 0,.int .u64 (n:Int)])) (hb:decide ((n:Int)>9223372036854775807)=false) (hi:iV (IntKind.i64.wrap (n:Int))=iV (n:Int)) (n0:0≤(n:Int)) (n1:(n:Int)≤1000000) (hys:ziV g=qeH (qdh [iV 0] n) (0*1) (List.take (Nat.min 1 n*1) [iV z])) (hpos:0<Nat.min 1 n) (hin:0*1+(List.take (Nat.min 1 n*1) [iV z]).length≤(qdh [iV 0] n).length) (h1:SV.pv (goInt (Nat.min 1 n))=.pv (iV ((1:Nat):Int))) (r0:Rl 1 1 171 0 48 2 ([(7,.ls 1 n),(8,.pv (iV ((1:Nat):Int)))]) ([(1,0,.row 3 1 n (ziV (g)))]) (.exit 0) ([(7,.ls 1 n)]) ([(1,0,.row 3 1 n (ziV (wv)))])) :
 Fn 171 1 [.ps 0 0 1 1,.pv (iV (n:Int))] [(0,0,.pv (iV z))] (.ls 1 n) 1 [(1,0,.row 3 1 n (ziV wv))]:=
 Fz [(1,1)] [.t false,.k,Re hu,Rf hm,.k,.t false,Re hi,.w (ziV g),Lf r0]
  (qaE (qaK [(1,1)]) [(1,0,.row 3 1 n (ziV wv))]) (Ai h0 (Ai hu (Ai hm (Ai hb (Ai hi (Ai n0 (Ai (Eq.refl (n:Int)) (Ai n1 (Ai hys (Ai hpos (Ai hin (Ai (Ai (Eq.refl (SV.ls 1 n)) (Ai h1 tI)) (Ai (Lh r0 []) (Ai r0 tI))))))))))))))
theorem qEQ {wv f2:List Int} {n:Nat} (hs:Fn 170 0 [.pv (iV (n:Int))] [] (.tu [.ag [.ls 0 n,.ls 1 n,.ls 2 n],.one (.pv (iV 0))]) 3 [(0,0,.row 3 1 n (ziV (List.replicate n 0))),(1,0,.row 4 1 n (zbV (List.replicate n false))),(2,0,.row 3 1 n (ziV f2))]) (hr:Fn 171 1 [.ps 0 0 1 1,.pv (iV (n:Int))] [(0,0,.pv (iV (-1)))] (.ls 1 n) 1 [(1,0,.row 3 1 n (ziV wv))]) :
 Fn 102 0 [.pv (iV (n:Int))] [] (.tu [.ag [.ls 0 n,.ls 1 n,.ls 2 n,.pv (.slice none 0 0),.ls 3 n],.one (.pv (iV 0))]) 4 [(0,0,.row 3 1 n (ziV (List.replicate n 0))),(1,0,.row 4 1 n (zbV (List.replicate n false))),(2,0,.row 3 1 n (ziV f2)),(3,0,.row 3 1 n (ziV wv))]:=
 Fz [(0,1),(1,2),(2,3),(3,6)] [Cf hs [],.k,.md,Cf hr [5]]
  (qaE (qaK [(0,1),(1,2),(2,3),(3,6)]) [(0,0,.row 3 1 n (ziV (List.replicate n 0))),(1,0,.row 4 1 n (zbV (List.replicate n false))),(2,0,.row 3 1 n (ziV f2)),(3,0,.row 3 1 n (ziV wv))]) (Co hs [] 1 (Co hr [5] 6 tI))
end Go.Proofs.YtkckcgpmnipnaaaGreat
