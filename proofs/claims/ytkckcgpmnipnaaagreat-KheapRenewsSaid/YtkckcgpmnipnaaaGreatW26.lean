/-
  Joined: Yc, Yd, Ye, Yf. Conditions: none.
-/
import Derived.Test.YtkckcgpmnipnaaaGreatW25
import Derived.Test.YtkckcgpmnipnaaaGreatW16
import Derived.Test.YtkckcgpmnipnaaaGreatW18
namespace Go.Proofs.YtkckcgpmnipnaaaGreat
set_option maxRecDepth 100000
open Go.RowKit
variable {g wv s:List Int} {ev:List Ev} {m:Ev} {k j nn c:Nat} {x y:Int} {ys:List Value}
theorem qvx (g:List Int) (x:Int):some (SV.row 3 1 (g.length+1) (ziV g++[iV x]))=some (zrI (g++[x])):=by rw[zrI,qeI,List.length_append];rfl
theorem qEd (b:Nat) (g:List Int) (x:Int):SV.ls b (g.length+1)=SV.ls b (g++[x]).length:=by rw[List.length_append];rfl
theorem qBZ {l:List Int} {k j:Nat} {x:Int} (h:l[k+j]?=some x):qcJ (ziV l) ((0+k)*1+j*1) [iV x]:=by
 have e:(0+k)*1+j*1=0*1+(k+j)*1:=by omega
 rw[e];exact qbb h
abbrev qEV (ev:List Ev) (g:List Int) (k:Nat):TmL:=[(0,.ls 0 ev.length),(3,.ls 1 (g).length),(6,.ls 0 ev.length),(7,.pv (iV (ev.length:Int))),(8,.pv (iV (k:Int)))]
theorem qBj (hk:ev[k]?=some m) (hin:Bd k ev.length) (hlt:Dt ((k:Int)<(ev.length:Int))) (hc:Pure Tryz.prog 101 #[qab m.n m.d] (iV (8))):Rl 1 1 226 0 36 2 (qEV ev g k) ([(0,0,qap ev),(1,0,zrI (g))]) (.ret) ([(2,.pv (.bool false))]) ([]):=
 RunsL.stop [] 300 [.t true,.r (qaa m),Rf hc,.k] (fun h=>by cases h)
  (Ro (A4 hlt hin (qaF hk) hc tI))
theorem qAp (hk:ev[k]?=some m) (hin:Bd k ev.length) (hlt:Dt ((k:Int)<(ev.length:Int))) (hc:Pure Tryz.prog 101 #[qab m.n m.d] (iV (0))) (hn:Pure Tryz.prog 280 #[iV (m.k)] (.bool false)):Rl 1 1 226 0 36 2 (qEV ev g k) ([(0,0,qap ev),(1,0,zrI (g))]) (.ret) ([(2,.pv (.bool false))]) ([]):=
 RunsL.stop [] 300 [.t true,.r (qaa m),Rf hc,.k,Rf hn,.k] (fun h=>by cases h)
  (Ro (A5 hlt hin (qaF hk) hc hn tI))
theorem qp1 (hk:ev[k]?=some m) (hin:0≤(k:Int)∧(k:Int)<(ev.length:Int)) (hlt:decide ((k:Int)<(ev.length:Int))=true) (hc:Pure Tryz.prog 101 #[qab m.n m.d] (iV (0))) (hn:Pure Tryz.prog 280 #[iV (m.k)] (.bool true)) (hl:g.length+1≤1000000) (hs:iV (IntKind.i64.wrap ((k:Int)+1))=iV (((k+1:Nat):Int))) {e:Exit} {tm2:TmL} {hp2:HpL}
 (r:Rl 1 1 226 0 36 2 ([(0,.ls 0 ev.length),(3,.ls 1 (g++[m.k]).length),(6,.ls 0 ev.length),(7,.pv (iV (ev.length:Int))),(8,.pv (iV ((k+1:Nat):Int)))]) ([(0,0,qap ev),(1,0,zrI (g++[m.k]))]) e tm2 hp2):Rl 1 1 226 0 36 2 (qEV ev g k) ([(0,0,qap ev),(1,0,zrI (g))]) e tm2 hp2:=
 RunsL.next [(1,4)] 300 [.t true,.r (qaa m),Rf hc,.k,Rf hn,.k,Re hs]
  (qml (A5 (Eq.refl (SV.ls 0 ev.length)) (qEd 4 g m.k) (Eq.refl (SV.ls 0 ev.length)) (Eq.refl (SV.pv (iV (ev.length:Int)))) (Eq.refl (SV.pv (iV ((k+1:Nat):Int)))) tI) (A2 (Er (qap ev)) (qvx g m.k) tI) (A7 hlt hin (qaF hk) hc hn hl hs tI) (by kernel_rfl)) r
theorem qA9 (hge:decide ((k:Int)<(ev.length:Int))=false):Rl 1 1 226 0 36 2 (qEV ev g k) ([(0,0,qap ev),(1,0,zrI (g))]) (.exit 0) ([(0,.ls 0 ev.length),(3,.ls 1 g.length)]) ([(0,0,qap ev),(1,0,zrI (g))]):=
 RunsL.stop [] 300 [.t false] (fun h=>by cases h)
  (Ro (Ai hge tI))
theorem qGB (r0:Rl 1 1 226 0 36 2 ([(0,.ls 0 ev.length),(3,.ls 1 ([]:List Int).length),(6,.ls 0 ev.length),(7,.pv (iV (ev.length:Int))),(8,.pv (iV ((0:Nat):Int)))]) ([(0,0,qap ev),(1,0,zrI ([]:List Int))]) (.ret) ([(2,.pv (.bool false))]) ([])) :
 Fn 226 1 [.ls 0 ev.length] [(0,0,qap ev)] (.pv (.bool false)) 0 []:=
 Fz [] [.ln true 3 0 3 1,Lf r0]
  tI (Lo r0 [] tI)
theorem qnD (hx:wv[k]?=some x) (hin:0≤(k:Int)∧(k:Int)<(nn:Int)) (hy:wv[j]?=some y) (hij:0≤(j:Int)∧(j:Int)<(nn:Int)) (hlt:decide ((k:Int)<(nn:Int))=true) (hm:iV (IntKind.i64.wrap ((k:Int)-1))=iV (j:Int)) (hq:(x==y)=false) (hs:iV (IntKind.i64.wrap ((k:Int)+1))=iV (((k+1:Nat):Int))) {e:Exit} {tm2:TmL} {hp2:HpL}
 (r:Rl 1 2 281 0 61 2 ([(0,.ls 1 nn),(3,.pv (iV ((k+1:Nat):Int)))]) ([(1,0,.row 3 1 nn (ziV (wv)))]) e tm2 hp2):Rl 1 2 281 0 61 2 ([(0,.ls 1 nn),(3,.pv (iV (k:Int)))]) ([(1,0,.row 3 1 nn (ziV (wv)))]) e tm2 hp2:=
 RunsL.next [] 300 [.t true,.r (iV (x)),Re hm,.r (iV (y)),.t false,Re hs]
  (Ro (A8 hlt hin (qbb hx) hm hij (qbb hy) hq hs tI)) r
theorem qDb (hge:decide ((k:Int)<(nn:Int))=false):Rl 1 2 281 0 61 2 ([(0,.ls 1 nn),(3,.pv (iV (k:Int)))]) ([(1,0,.row 3 1 nn (ziV (wv)))]) (.exit 0) ([(0,.ls 1 nn)]) ([(1,0,.row 3 1 nn (ziV (wv)))]):=
 RunsL.stop [] 300 [.t false] (fun h=>by cases h)
  (Ro (Ai hge tI))
abbrev qGQ (c:Nat) (j:Nat) (k:Nat) (nn:Nat):TmL:=[(0,.ls 1 nn),(3,.pv (iV (c:Int))),(4,.lq 1 1 (0+k) (nn-k)),(5,.pv (iV ((j+1:Nat):Int)))]
theorem qvm (hj1:0≤((j+1:Nat):Int)∧((j+1:Nat):Int)<((nn-k:Nat):Int)) (hj0:0≤(j:Int)∧(j:Int)<((nn-k:Nat):Int)) (hx:wv[k+(j+1)]?=some x) (hy:wv[k+j]?=some y) (hlt:decide (((j+1:Nat):Int)<((nn-k:Nat):Int))=true) (hm:iV (IntKind.i64.wrap (((j+1:Nat):Int)-1))=iV (j:Int)) (hq:(!(x==y))=false) (hsj:iV (IntKind.i64.wrap (((j+1:Nat):Int)+1))=iV (((j+1+1:Nat):Int))) {e:Exit} {tm2:TmL} {hp2:HpL}
 (r:Rl 1 2 281 1 61 2 ([(0,.ls 1 nn),(3,.pv (iV (c:Int))),(4,.lq 1 1 (0+k) (nn-k)),(5,.pv (iV ((j+1+1:Nat):Int)))]) ([(1,0,.row 3 1 nn (ziV (wv)))]) e tm2 hp2):Rl 1 2 281 1 61 2 (qGQ c j k nn) ([(1,0,.row 3 1 nn (ziV (wv)))]) e tm2 hp2:=
 RunsL.next [] 300 [.t true,.r (iV (x)),.r (iV (j:Int)),.r (iV (y)),.t false,.r (iV (((j+1+1:Nat):Int)))]
  (Ro (A8 hlt hj1 (qBZ hx) hm hj0 (qBZ hy) hq hsj tI)) r
theorem qDR (hj1:0≤((j+1:Nat):Int)∧((j+1:Nat):Int)<((nn-k:Nat):Int)) (hj0:0≤(j:Int)∧(j:Int)<((nn-k:Nat):Int)) (hx:wv[k+(j+1)]?=some x) (hy:wv[k+j]?=some y) (hlt:decide (((j+1:Nat):Int)<((nn-k:Nat):Int))=true) (hm:iV (IntKind.i64.wrap (((j+1:Nat):Int)-1))=iV (j:Int)) (hq:(!(x==y))=true) (hc:0≤(c:Int)∧(c:Int)<(nn:Int)) (hcl:c<wv.length) (hsc:iV (IntKind.i64.wrap ((c:Int)+1))=iV (((c+1:Nat):Int))) (hsj:iV (IntKind.i64.wrap (((j+1:Nat):Int)+1))=iV (((j+1+1:Nat):Int))) {e:Exit} {tm2:TmL} {hp2:HpL}
 (r:Rl 1 2 281 1 61 2 ([(0,.ls 1 nn),(3,.pv (iV ((c+1:Nat):Int))),(4,.lq 1 1 (0+k) (nn-k)),(5,.pv (iV ((j+1+1:Nat):Int)))]) ([(1,0,.row 3 1 nn (ziV (wv.set c x)))]) e tm2 hp2):Rl 1 2 281 1 61 2 (qGQ c j k nn) ([(1,0,.row 3 1 nn (ziV (wv)))]) e tm2 hp2:=
 RunsL.next [] 300 [.t true,.r (iV (x)),.r (iV (j:Int)),.r (iV (y)),.t true,.r (iV (x)),.w (ziV (wv.set c x)),Re hsc,.r (iV (((j+1+1:Nat):Int)))]
  (Ro (A9 hlt hj1 (qBZ hx) hm hj0 (qBZ hy) hq hj1 (qBZ hx) (A5 hc (qcB wv c x hcl) (qaQ wv c hcl) hsc hsj tI))) r
theorem qDf (hge:decide (((j+1:Nat):Int)<((nn-k:Nat):Int))=false):Rl 1 2 281 1 61 2 (qGQ c j k nn) ([(1,0,.row 3 1 nn (ziV (wv)))]) (.exit 2) ([(0,.ls 1 nn),(3,.pv (iV (c:Int)))]) ([(1,0,.row 3 1 nn (ziV (wv)))]):=
 RunsL.stop [] 300 [.t false] (fun h=>by cases h)
  (Ro (Ai hge tI))
theorem qAQ (hx:wv[k]?=some x) (hin:0≤(k:Int)∧(k:Int)<(nn:Int)) (hy:wv[j]?=some y) (hij:0≤(j:Int)∧(j:Int)<(nn:Int)) (hlt:decide ((k:Int)<(nn:Int))=true) (hm:iV (IntKind.i64.wrap ((k:Int)-1))=iV (j:Int)) (hq:(x==y)=true) (hkn:k≤nn) (r1:Rl 1 2 281 1 61 2 ([(0,.ls 1 nn),(3,.pv (iV (k:Int))),(4,.lq 1 1 (0+k) (nn-k)),(5,.pv (iV ((1:Nat):Int)))]) ([(1,0,.row 3 1 nn (ziV (wv)))]) (.exit 2) ([(0,.ls 1 nn),(3,.pv (iV (c:Int)))]) ([(1,0,.row 3 1 nn (ziV (s)))])) (hcn:c≤nn) (hys:ys=qf9 (ziV s) ((0+c)*1) (qdR [iV 0] (nn-c))) (hp:0<nn-c) (hb:(0+c)*1+((qdR [iV 0] (nn-c))).length≤(ziV s).length):Rl 1 2 281 0 61 2 ([(0,.ls 1 nn),(3,.pv (iV (k:Int)))]) ([(1,0,.row 3 1 nn (ziV (wv)))]) (.ret) ([(2,.lq 1 1 0 c)]) ([(1,0,.row 3 1 nn ys)]):=
 RunsL.stop [] 300 [.t true,.r (iV (x)),Re hm,.r (iV (y)),.t true,.k,Lf r1,.k,.w ys,.k] (fun h=>by cases h)
  (Ro (A9 hlt hin (qbb hx) hm hij (qbb hy) hq (Int.natCast_nonneg k) tI (A2 hkn (Nat.le_refl nn) (Lo r1 [] (A9 (Int.natCast_nonneg c) tI hcn (Nat.le_refl nn) hys hp hb tI (Int.natCast_nonneg c) (A2 (Nat.zero_le c) hcn tI))))))
abbrev qGW (ev:List Ev) (g:List Int):Prop:=Rl 1 1 226 0 36 2 ([(0,.ls 0 ev.length),(3,.ls 1 ([]:List Int).length),(6,.ls 0 ev.length),(7,.pv (iV (ev.length:Int))),(8,.pv (iV ((0:Nat):Int)))]) ([(0,0,qap ev),(1,0,zrI ([]:List Int))]) (.exit 0) ([(0,.ls 0 ev.length),(3,.ls 1 g.length)]) ([(0,0,qap ev),(1,0,zrI (g))])
theorem qjN (r0:qGW ev g) (hso:FnM Tryz.prog 182 1 [.ls 0 g.length] [(0,0,zrI g)] (.tuple #[]) 0 ⟨3,1,g.length,ziV g⟩ (ziV s)) (h2:decide ((g.length:Int)<2)=true) (hl:((g.length:Int)==(ev.length:Int))=true) :
 Fn 226 1 [.ls 0 ev.length] [(0,0,qap ev)] (.pv (.bool true)) 0 []:=
 Fz [] [.ln true 3 0 3 1,Lf r0,.m [1] [.ls 0 g.length] [(0,0,zrI g)] (.tuple #[]) 0 (ziV s),.k,.t true,.t true]
  tI (Lo r0 [] (A5 hso (Eq.refl (List.map (SV.ren (qca [1] 2)) [.ls 0 g.length])) (qaG (qca [1] 2) [(0,0,zrI g)]) h2 hl tI))
theorem qjG (r0:qGW ev g) (hso:FnM Tryz.prog 182 1 [.ls 0 g.length] [(0,0,zrI g)] (.tuple #[]) 0 ⟨3,1,g.length,ziV g⟩ (ziV s)) (h2:decide ((g.length:Int)<2)=false) (r2:Rl 1 2 281 0 61 2 ([(0,.ls 1 g.length),(3,.pv (iV ((1:Nat):Int)))]) ([(1,0,.row 3 1 g.length (ziV (s)))]) (.exit 0) ([(0,.ls 1 g.length)]) ([(1,0,.row 3 1 g.length (ziV (s)))])) (hl:((g.length:Int)==(ev.length:Int))=true) :
 Fn 226 1 [.ls 0 ev.length] [(0,0,qap ev)] (.pv (.bool true)) 0 []:=
 Fz [] [.ln true 3 0 3 1,Lf r0,.m [1] [.ls 0 g.length] [(0,0,zrI g)] (.tuple #[]) 0 (ziV s),.k,.t false,Lf r2,.t true]
  tI (Lo r0 [] (A4 hso (Eq.refl (List.map (SV.ren (qca [1] 2)) [.ls 0 g.length])) (qaG (qca [1] 2) [(0,0,zrI g)]) h2 (Lo r2 [] (Ai hl tI))))
theorem qAF (r0:qGW ev g) (hso:FnM Tryz.prog 182 1 [.ls 0 g.length] [(0,0,zrI g)] (.tuple #[]) 0 ⟨3,1,g.length,ziV g⟩ (ziV s)) (h2:decide ((g.length:Int)<2)=false) (r2:Rl 1 2 281 0 61 2 ([(0,.ls 1 g.length),(3,.pv (iV ((1:Nat):Int)))]) ([(1,0,.row 3 1 g.length (ziV (s)))]) (.ret) ([(2,.lq 1 1 0 c)]) ([(1,0,.row 3 1 g.length ys)])) (hl:((c:Int)==(ev.length:Int))=false) :
 Fn 226 1 [.ls 0 ev.length] [(0,0,qap ev)] (.pv (.bool false)) 0 []:=
 Fz [] [.ln true 3 0 3 1,Lf r0,.m [1] [.ls 0 g.length] [(0,0,zrI g)] (.tuple #[]) 0 (ziV s),.k,.t false,Lf r2,.t false]
  tI (Lo r0 [] (A4 hso (Eq.refl (List.map (SV.ren (qca [1] 2)) [.ls 0 g.length])) (qaG (qca [1] 2) [(0,0,zrI g)]) h2 (Lo r2 [] (Ai hl tI))))
end Go.Proofs.YtkckcgpmnipnaaaGreat

namespace Go.Proofs.YtkckcgpmnipnaaaGreat
set_option maxRecDepth 100000
open Go.RowKit
theorem qbG {x y:Ev} (hx:EvOk x) (hy:EvOk y):Pure Tryz.prog 282 #[qaa x,qaa y] (.bool (ltE x y)):=by
 by_cases e:x.n=y.n∧x.d=y.d
 ·have h1:(x.n==y.n&&(x.d==y.d&&true))=true:=by simp[e.1,e.2]
  have h2:ltE x y=decide (x.k<y.k):=by simp[ltE,e.1,e.2]
  rw[h2];cases h3:decide (x.k<y.k)
  ·exact qhL h1 h3
  ·exact qiX h1 h3
 ·have h1:(x.n==y.n&&(x.d==y.d&&true))=false:=by
   rw[Bool.and_true,Bool.and_eq_false_iff];by_cases e1:x.n=y.n
   ·right;simp;exact fun e2=>e ⟨e1,e2⟩
   ·left;simpa using e1
  have hne:x.n*y.d≠y.n*x.d:=fun h=>e (qkg hx.ok hy.ok h)
  have hc:=qul hx.i.1 hx.i.2 hy.i.1 hy.i.2 hx.ok hy.ok
  have h2:ltE x y=decide ((x.n*y.d-y.n*x.d).sign<0):=by
   simp only[ltE,hne,decide_false,Bool.false_and,Bool.or_false];by_cases h3:x.n*y.d<y.n*x.d
   ·rw[decide_eq_true h3,decide_eq_true (by rw[Int.sign_eq_neg_one_of_neg (by omega)];omega)]
   ·rw[decide_eq_false h3,decide_eq_false (by rw[Int.sign_eq_one_of_pos (by omega)];omega)]
  rw[h2];cases h3:decide ((x.n*y.d-y.n*x.d).sign<0)
  ·exact qg9 h1 hc h3
  ·exact qhS h1 hc h3
theorem qbj {k:Nat} (h:1≤k) (hk:k≤1000000):Pure Tryz.prog 283 #[iV (k:Int)] (iV (((k-1)/2:Nat):Int)):=by
 refine qjw (y:=((k-1:Nat):Int)) (by rw[show (k:Int)-1=((k-1:Nat):Int) by omega];exact qbe (by omega) (by omega)) (by decide) ?_
 have e:Int.tdiv ((k-1:Nat):Int) 2=(((k-1)/2:Nat):Int):=by rw[Int.tdiv_eq_ediv_of_nonneg (by omega)];omega
 rw[e];exact qbe (by omega) (by omega)
theorem qg1 (z:Int):Pure Tryz.prog 280 #[iV z] (.bool (decide (0≤z∧z≤1000000))):=by
 by_cases h1:0≤z
 ·by_cases h2:z≤1000000
  ·rw[decide_eq_true ⟨h1,h2⟩];exact qCu (decide_eq_true h1) (decide_eq_true h2)
  ·rw[decide_eq_false (fun h=>h2 h.2)];exact qCz (decide_eq_true h1) (decide_eq_false h2)
 ·rw[decide_eq_false (fun h=>h1 h.1)];exact qBv (decide_eq_false h1)
def qbk (ev:List Ev) (i:Nat):Nat:=match ev[2*i+1]?,ev[i]? with
 | some x,some m=>if ltE x m=true then 2*i+1 else i
 | _,_=>i
def qaw (ev:List Ev) (i:Nat):Nat:=match ev[2*i+2]?,ev[qbk ev i]? with
 | some y,some m=>if ltE y m=true then 2*i+2 else qbk ev i
 | _,_=>qbk ev i
theorem qdJ {ev:List Ev} {i:Nat} (h:∀ x∈ev,EvOk x) (hl:ev.length≤1000000) (hi:i<ev.length):Fn 344 1 [.ls 0 ev.length,.pv (iV (i:Int))] [(0,0,qap ev)] (.pv (iV ((qaw ev i:Nat):Int))) 0 []:=by
 obtain⟨m,hm⟩:∃ m,ev[i]?=some m:=⟨_,List.getElem?_eq_getElem hi⟩;have om:=h m (List.mem_of_getElem? hm)
 have hq:iV (IntKind.i64.wrap (2*(i:Int)))=iV ((2*i:Nat):Int):=by rw[show 2*(i:Int)=((2*i:Nat):Int) by omega];exact qbe (by omega) (by omega)
 have hq1:iV (IntKind.i64.wrap (((2*i:Nat):Int)+1))=iV ((2*i+1:Nat):Int):=by rw[show ((2*i:Nat):Int)+1=((2*i+1:Nat):Int) by omega];exact qbe (by omega) (by omega)
 have hq2:iV (IntKind.i64.wrap (((2*i:Nat):Int)+2))=iV ((2*i+2:Nat):Int):=by rw[show ((2*i:Nat):Int)+2=((2*i+2:Nat):Int) by omega];exact qbe (by omega) (by omega)
 have hs1:iV (IntKind.i64.wrap (((2*i+1:Nat):Int)+1))=iV ((2*i+2:Nat):Int):=by rw[show ((2*i+1:Nat):Int)+1=((2*i+2:Nat):Int) by omega];exact qbe (by omega) (by omega)
 have hs2:iV (IntKind.i64.wrap (((2*i+2:Nat):Int)+1))=iV ((2*i+3:Nat):Int):=by rw[show ((2*i+2:Nat):Int)+1=((2*i+3:Nat):Int) by omega];exact qbe (by omega) (by omega)
 have b1:decide (((2*i+1:Nat):Int)≤((2*i+2:Nat):Int))=true:=decide_eq_true (by omega);have b2:decide (((2*i+2:Nat):Int)≤((2*i+2:Nat):Int))=true:=decide_eq_true (by omega);have b3:decide (((2*i+3:Nat):Int)≤((2*i+2:Nat):Int))=false:=decide_eq_false (by omega)
 have hin:0≤(i:Int)∧(i:Int)<(ev.length:Int):=by omega
 by_cases c1:2*i+1<ev.length
 ·obtain⟨x,hx⟩:∃ x,ev[2*i+1]?=some x:=⟨_,List.getElem?_eq_getElem c1⟩;have ox:=h x (List.mem_of_getElem? hx);have l1:decide (((2*i+1:Nat):Int)<(ev.length:Int))=true:=decide_eq_true (by omega)
  have hix:0≤((2*i+1:Nat):Int)∧((2*i+1:Nat):Int)<(ev.length:Int):=by omega
  have hc1:=qbG ox om;by_cases c2:2*i+2<ev.length
  ·obtain⟨y,hy⟩:∃ y,ev[2*i+2]?=some y:=⟨_,List.getElem?_eq_getElem c2⟩;have oy:=h y (List.mem_of_getElem? hy);have l2:decide (((2*i+2:Nat):Int)<(ev.length:Int))=true:=decide_eq_true (by omega)
   have hiy:0≤((2*i+2:Nat):Int)∧((2*i+2:Nat):Int)<(ev.length:Int):=by omega
   cases e1:ltE x m
   ·rw[e1] at hc1;have hc2:=qbG oy om
    cases e2:ltE y m<;>rw[e2] at hc2
    ·have e:qaw ev i=i:=by simp[qaw,qbk,hx,hm,hy,e1,e2]
     rw[e];exact qCB hq hq1 hq2 b1 l1 hix hx hin hm hc1 hs1 b2 l2 hiy hy hc2 hs2 b3
    ·have e:qaw ev i=2*i+2:=by simp[qaw,qbk,hx,hm,hy,e1,e2]
     rw[e];exact qzX hq hq1 hq2 b1 l1 hix hx hin hm hc1 hs1 b2 l2 hiy hy hc2 hs2 b3
   ·rw[e1] at hc1;have hc2:=qbG oy ox
    cases e2:ltE y x<;>rw[e2] at hc2
    ·have e:qaw ev i=2*i+1:=by simp[qaw,qbk,hx,hm,hy,e1,e2]
     rw[e];exact qCY hq hq1 hq2 b1 l1 hix hx hin hm hc1 hs1 b2 l2 hiy hy hc2 hs2 b3
    ·have e:qaw ev i=2*i+2:=by simp[qaw,qbk,hx,hm,hy,e1,e2]
     rw[e];exact qz5 hq hq1 hq2 b1 l1 hix hx hin hm hc1 hs1 b2 l2 hiy hy hc2 hs2 b3
  ·have hy:ev[2*i+2]?=none:=List.getElem?_eq_none (by omega);have l2:decide (((2*i+2:Nat):Int)<(ev.length:Int))=false:=decide_eq_false (by omega)
   cases e1:ltE x m<;>rw[e1] at hc1
   ·have e:qaw ev i=i:=by simp[qaw,qbk,hx,hm,hy,e1]
    rw[e];exact qHo hq hq1 hq2 b1 l1 hix hx hin hm hc1 hs1 b2 l2
   ·have e:qaw ev i=2*i+1:=by simp[qaw,qbk,hx,hm,hy,e1]
    rw[e];exact qIi hq hq1 hq2 b1 l1 hix hx hin hm hc1 hs1 b2 l2
 ·have hx:ev[2*i+1]?=none:=List.getElem?_eq_none (by omega);have hy:ev[2*i+2]?=none:=List.getElem?_eq_none (by omega)
  have e:qaw ev i=i:=by simp[qaw,qbk,hx,hy]
  rw[e];exact qJV hq hq1 hq2 b1 (decide_eq_false (by omega))
def qbU (ev:List Ev) (k:Nat):Bool:=match ev[k]?,ev[(k-1)/2]? with
 | some x,some y=>!ltE x y
 | _,_=>true
abbrev ihT (ev:List Ev) (k:Nat):List (Nat×SV):=[(0,.ls 0 ev.length),(3,.pv (iV (k:Int)))]
theorem qkz {ev:List Ev} {k:Nat} (h:∀ x∈ev,EvOk x) (hl:ev.length≤1000000) (h1:1≤k) (hk:k<ev.length):∃ x y,ev[k]?=some x∧ev[(k-1)/2]?=some y∧Pure Tryz.prog 282 #[qaa x,qaa y] (.bool (ltE x y))∧qbU ev k = !ltE x y:=by
 have hj:(k-1)/2<ev.length:=by omega
 refine⟨_,_,List.getElem?_eq_getElem hk,List.getElem?_eq_getElem hj,qbG (h _ (List.getElem_mem hk)) (h _ (List.getElem_mem hj)),?_⟩;simp[qbU,hk,hj]
theorem quG {ev:List Ev} (h:∀ x∈ev,EvOk x) (hl:ev.length≤1000000):∀ (d k:Nat),ev.length≤k+d→1≤k→(∀ j,k≤j→j<ev.length→qbU ev j=true)→Rl 1 1 227 0 20 1 (ihT ev k) [(0,0,qap ev)] (.exit 0) [] []:=by
 intro d
 induction d with
 | zero=>intro k hd h1 hg;exact quq (decide_eq_false (by omega))
 | succ d ih=>
  intro k hd h1 hg;by_cases hk:k<ev.length
  ·obtain⟨x,y,hx,hy,hc,e⟩:=qkz h hl h1 hk;rw[hg k (Nat.le_refl _) hk] at e
   have e':ltE x y=false:=by simpa using e.symm
   rw[e'] at hc;exact qo1 hx (by omega) hy (by omega) (decide_eq_true (by omega)) (qbj h1 (by omega)) hc (qaL (by omega)) (ih (k+1) (by omega) (by omega) (fun j a b=>hg j (by omega) b))
  ·exact quq (decide_eq_false (by omega))
theorem qta {ev:List Ev} (h:∀ x∈ev,EvOk x) (hl:ev.length≤1000000):∀ (d k:Nat),ev.length≤k+d→1≤k→(∃ j,k≤j∧j<ev.length∧qbU ev j=false)→Rl 1 1 227 0 20 1 (ihT ev k) [(0,0,qap ev)] .ret [(2,.pv (.bool false))] []:=by
 intro d
 induction d with
 | zero=>intro k hd h1 ⟨j,a,b,_⟩;omega
 | succ d ih=>
  intro k hd h1 ⟨j,a,b,hj⟩;obtain⟨x,y,hx,hy,hc,e⟩:=qkz h hl h1 (show k<ev.length by omega)
  cases e':ltE x y<;>rw[e'] at hc e
  ·refine qo1 hx (by omega) hy (by omega) (decide_eq_true (by omega)) (qbj h1 (by omega)) hc (qaL (by omega)) (ih (k+1) (by omega) (by omega) ⟨j,?_,b,hj⟩)
   rcases Nat.lt_or_ge k j with c | c
   ·exact c
   ·have:k=j:=by omega
    subst this;rw[hj] at e;cases e
  ·exact qDo hx (by omega) hy (by omega) (decide_eq_true (by omega)) (qbj h1 (by omega)) hc
theorem qmP {ev:List Ev} (h:∀ x∈ev,EvOk x) (hl:ev.length≤1000000) (hg:∀ j,1≤j→j<ev.length→qbU ev j=true):Fn 227 1 [.ls 0 ev.length] [(0,0,qap ev)] (.pv (.bool true)) 0 []:=qB2 (quG h hl ev.length 1 (by omega) (by omega) hg)
theorem qoo {ev:List Ev} (h:∀ x∈ev,EvOk x) (hl:ev.length≤1000000) (hg:∃ j,1≤j∧j<ev.length∧qbU ev j=false):Fn 227 1 [.ls 0 ev.length] [(0,0,qap ev)] (.pv (.bool false)) 0 []:=qGt (qta h hl ev.length 1 (by omega) (by omega) hg)
section
variable {u fr wh:List Int} {b:List Bool} {ev:List Ev}
def qbd (u:List Int) (ev:List Ev) (wh:List Int) (k:Nat):Bool:=match wh[k]?,u[k]? with
 | some z,some c=>decide (0≤z)&&(match ev[z.toNat]? with
  | some x=>decide (x.i=(k:Int))&&decide (x.w=c)
  | none=>false)
 | _,_=>false
theorem qi4 {k:Nat} (hw:k<wh.length) (hu:k<u.length):Fn 279 5 [agA u b fr ev wh,.pv (iV (k:Int))] (agP u b fr ev wh) (.pv (.bool (qbd u ev wh k))) 0 []:=by
 obtain⟨z,hz⟩:∃ z,wh[k]?=some z:=⟨_,List.getElem?_eq_getElem hw⟩;obtain⟨c,hc⟩:∃ c,u[k]?=some c:=⟨_,List.getElem?_eq_getElem hu⟩;by_cases h0:0≤z
 ·by_cases h1:z<(ev.length:Int)
  ·obtain⟨x,hx⟩:∃ x,ev[z.toNat]?=some x:=⟨_,List.getElem?_eq_getElem (by omega)⟩
   have e:qbd u ev wh k=(x.i==(k:Int)&&(x.w==c&&true)):=by
    simp only[qbd,hz,hc,hx,decide_eq_true h0,Bool.true_and,Bool.and_true];rfl
   rw[e];cases e2:(x.i==(k:Int)&&(x.w==c&&true))
   ·exact qsv (by omega) hz (by omega) hc (decide_eq_true h0) (decide_eq_true h1) ⟨h0,h1⟩ hx e2
   ·exact qvL (by omega) hz (by omega) hc (decide_eq_true h0) (decide_eq_true h1) ⟨h0,h1⟩ hx e2
  ·have hx:ev[z.toNat]?=none:=List.getElem?_eq_none (by omega)
   have e:qbd u ev wh k=false:=by simp[qbd,hz,hc,hx]
   rw[e];exact qB1 (by omega) hz (by omega) hc (decide_eq_true h0) (decide_eq_false h1)
 ·have e:qbd u ev wh k=false:=by simp[qbd,hz,hc,h0]
  rw[e];exact qAU (by omega) hz (by omega) hc (decide_eq_false h0)
def whB (u:List Int) (b:List Bool) (ev:List Ev) (wh:List Int) (k:Nat):Bool:=match b[k]? with
 | some true=>qbd u ev wh k
 | some false=>wh[k]?==some (-1)
 | none=>true
abbrev wfT (b:List Bool) (j k:Nat):List (Nat×SV):=[(1,.pp 5 0),(3,.pv (iV (j:Int))),(16,.ls 1 b.length),(17,.pv (iV (b.length:Int))),(18,.pv (iV (k:Int)))]
abbrev wfH (u:List Int) (b:List Bool) (fr:List Int) (ev:List Ev) (wh:List Int):List (Nat×Nat×SV):=[(5,0,.ls 0 u.length),(5,1,.ls 1 b.length),(5,2,.ls 2 fr.length),(5,3,.ls 3 ev.length),(5,4,.ls 4 wh.length),(0,0,zrI u),(1,0,zrB b),(2,0,zrI fr),(3,0,qap ev),(4,0,zrI wh)]
theorem qob (hw:wh.length=b.length) (hu:u.length=b.length) (hl:b.length≤1000000):∀ (d k j:Nat),k+d=b.length→j≤k→(∀ i,k≤i→i<b.length→whB u b ev wh i=true)→
 Rl 5 5 225 0 51 6 (wfT b j k) (wfH u b fr ev wh) (.exit 0) [(1,.pp 5 0),(3,.pv (iV ((j+(b.drop k).count true:Nat):Int)))] (wfH u b fr ev wh):=by
 intro d
 induction d with
 | zero=>
  intro k j hd hj _;rw[List.drop_of_length_le (by omega)];exact qCG (decide_eq_false (by omega))
 | succ d ih=>
  intro k j hd hj hg
  have hk:k<b.length:=by omega
  have g:=hg k (Nat.le_refl _) hk;have hb:b[k]?=some b[k]:=List.getElem?_eq_getElem hk;have hdr:b.drop k=b[k]::b.drop (k+1):=List.drop_eq_getElem_cons hk;rw[hdr]
  cases e:b[k]<;>rw[e] at hb
  ·have hz:wh[k]?=some (-1):=by simpa [whB,hb] using g
   rw[List.count_cons_of_ne (by decide)];exact qpH hb (by omega) (decide_eq_true (by omega)) (by omega) hz (by decide) (qaL (by omega)) (ih (k+1) j (by omega) (by omega) (fun i a c=>hg i (by omega) c))
  ·have hh:qbd u ev wh k=true:=by simpa [whB,hb] using g
   have hc:=qi4 (b:=b) (fr:=fr) (ev:=ev) (show k<wh.length by omega) (show k<u.length by omega);rw[hh] at hc;rw[List.count_cons_self,show j+((b.drop (k+1)).count true+1)=(j+1)+(b.drop (k+1)).count true by omega];exact qnM hb (by omega) (decide_eq_true (by omega)) hc (qaL (by omega)) (qaL (by omega)) (ih (k+1) (j+1) (by omega) (by omega) (fun i a c=>hg i (by omega) c))
theorem qs5 (hw:wh.length=b.length) (hu:u.length=b.length) (hl:b.length≤1000000):∀ (d k j:Nat),k+d=b.length→j≤k→(∃ i,k≤i∧i<b.length∧whB u b ev wh i=false)→
 Rl 5 5 225 0 51 6 (wfT b j k) (wfH u b fr ev wh) .ret [(2,.pv (.bool false))] []:=by
 intro d
 induction d with
 | zero=>intro k j hd hj ⟨i,a,c,_⟩;omega
 | succ d ih=>
  intro k j hd hj ⟨i,a,c,hi⟩
  have hk:k<b.length:=by omega
  have hb:b[k]?=some b[k]:=List.getElem?_eq_getElem hk;obtain⟨z,hz⟩:∃ z,wh[k]?=some z:=⟨_,List.getElem?_eq_getElem (by omega)⟩;have hc:=qi4 (b:=b) (fr:=fr) (ev:=ev) (show k<wh.length by omega) (show k<u.length by omega)
  have more:whB u b ev wh k=true→∃ i,k+1≤i∧i<b.length∧whB u b ev wh i=false:=fun h=>by
   refine⟨i,?_,c,hi⟩
   rcases Nat.lt_or_ge k i with q | q
   ·exact q
   ·have:k=i:=by omega
    subst this;rw[hi] at h;cases h
  cases e:b[k]<;>rw[e] at hb
  ·by_cases h1:z = -1
   ·subst h1;exact qpH hb (by omega) (decide_eq_true (by omega)) (by omega) hz (by decide) (qaL (by omega)) (ih (k+1) j (by omega) (by omega) (more (by simp[whB,hb,hz])))
   ·exact qvu hb (by omega) (decide_eq_true (by omega)) (by omega) hz (by simpa using h1)
  ·cases hh:qbd u ev wh k<;>rw[hh] at hc
   ·exact qwU hb (by omega) (decide_eq_true (by omega)) hc
   ·exact qnM hb (by omega) (decide_eq_true (by omega)) hc (qaL (by omega)) (qaL (by omega)) (ih (k+1) (j+1) (by omega) (by omega) (more (by simp[whB,hb,hh])))
structure WhF (u:List Int) (b:List Bool) (ev:List Ev) (wh:List Int):Prop where
 len:wh.length=b.length
 at_:∀ i,i<b.length→whB u b ev wh i=true
 cnt:b.count true=ev.length
theorem qcH (hu:u.length=b.length) (hl:b.length≤1000000) (h:WhF u b ev wh):Fn 225 5 [agA u b fr ev wh] (agP u b fr ev wh) (.pv (.bool true)) 0 []:=by
 have r:=qob (fr:=fr) (ev:=ev) h.len hu hl b.length 0 0 (by omega) (by omega) (fun i _ c=>h.at_ i c);rw[List.drop_zero,Nat.zero_add,h.cnt] at r;exact qjh (by simp[h.len]) r (by simp)
theorem qhW (hu:u.length=b.length) (hl:b.length≤1000000) (h:¬ WhF u b ev wh):Fn 225 5 [agA u b fr ev wh] (agP u b fr ev wh) (.pv (.bool false)) 0 []:=by
 by_cases h1:wh.length=b.length
 ·have hn:(!((wh.length:Int)==(b.length:Int)))=false:=by simp[h1]
  by_cases h2:∀ i,i<b.length→whB u b ev wh i=true
  ·have r:=qob (fr:=fr) (ev:=ev) h1 hu hl b.length 0 0 (by omega) (by omega) (fun i _ c=>h2 i c);rw[List.drop_zero,Nat.zero_add] at r;refine qiU hn r ?_
   have:b.count true≠ev.length:=fun e=>h ⟨h1,h2,e⟩
   simp;omega
  ·refine qGK hn (qs5 h1 hu hl b.length 0 0 (by omega) (by omega) ?_);simp only[Classical.not_forall] at h2;obtain⟨i,hi,e⟩:=h2;exact⟨i,by omega,hi,by simpa using e⟩
 ·exact qBP (by simp;omega)
end
end Go.Proofs.YtkckcgpmnipnaaaGreat

namespace Go.Proofs.YtkckcgpmnipnaaaGreat
set_option maxRecDepth 100000
open Go.RowKit
theorem qqh {l:List Int} (h:l.Pairwise (fun x y=>x≤y)) (hd:∀ k x y,l[k]?=some x→l[k+1]?=some y→x≠y):l.Nodup:=by
 rw[List.nodup_iff_pairwise_ne,List.pairwise_iff_getElem];rw[List.pairwise_iff_getElem] at h;intro i j hi hj hij e;have h1:=h i (i+1)
 have hi1:i+1<l.length:=by omega
 have a1:=h i (i+1) hi hi1 (by omega)
 have a2:l[i+1]≤l[j]:=by
  rcases Nat.lt_or_ge (i+1) j with c | c
  ·exact h (i+1) j hi1 hj c
  ·have:j=i+1:=by omega
   subst this;exact Int.le_refl _
 have:=hd i l[i] l[i+1] (List.getElem?_eq_getElem hi) (List.getElem?_eq_getElem hi1);omega
theorem qmv {l:List Int} (h:l.Nodup) {k:Nat} {x y:Int} (hx:l[k]?=some x) (hy:l[k+1]?=some y):x≠y:=by
 intro e;subst e;have:=(List.getElem?_inj (i:=k) (j:=k+1) (List.getElem?_eq_some_iff.1 hx).1 h).1 (hx.trans hy.symm);omega
theorem qtv {l:List Int} (h:l.Pairwise (fun x y=>x≤y)) (hn:¬ l.Nodup):∃ k x,l[k]?=some x∧l[k+1]?=some x∧∀ j,j<k→∀ y z,l[j]?=some y→l[j+1]?=some z→z≠y:=by
 have hex:∃ k,∃ x,l[k]?=some x∧l[k+1]?=some x:=by
  apply Classical.byContradiction;intro hne;exact hn (qqh h fun k x y hx hy e=>hne ⟨k,x,hx,by rw[hy,e]⟩)
 have key:∀ n k,k≤n→(∃ x,l[k]?=some x∧l[k+1]?=some x)→∃ k x,l[k]?=some x∧l[k+1]?=some x∧∀ j,j<k→∀ y z,l[j]?=some y→l[j+1]?=some z→z≠y:=by
  intro n
  induction n with
  | zero=>
   intro k hk ⟨x,h1,h2⟩;exact⟨k,x,h1,h2,fun j hj=>by omega⟩
  | succ n ih=>
   intro k hk ⟨x,h1,h2⟩;by_cases hc:∃ j,j<k∧∃ x,l[j]?=some x∧l[j+1]?=some x
   ·obtain⟨j,hj,hx⟩:=hc;exact ih j (by omega) hx
   ·exact⟨k,x,h1,h2,fun j hj y z hy hz e=>hc ⟨j,hj,y,hy,by rw[hz,e]⟩⟩
 obtain⟨k,hk⟩:=hex;exact key k k (Nat.le_refl _) hk
section
variable {nn:Nat}
abbrev cmH (nn:Nat) (wv:List Int):List (Nat×Nat×SV):=[(1,0,.row 3 1 nn (ziV wv))]
theorem qxl {s:List Int} (hs:s.length=nn) (hl:nn≤1000000) (hd:s.Nodup):∀ (d k:Nat),k+1+d=nn→Rl 1 2 281 0 61 2 [(0,.ls 1 nn),(3,.pv (iV ((k+1:Nat):Int)))] (cmH nn s) (.exit 0) [(0,.ls 1 nn)] (cmH nn s):=by
 intro d
 induction d with
 | zero=>intro k hk;exact qDb (decide_eq_false (by omega))
 | succ d ih=>
  intro k hk;have hx:s[k+1]?=some s[k+1]:=List.getElem?_eq_getElem (by omega);have hy:s[k]?=some s[k]:=List.getElem?_eq_getElem (by omega);have hne:=qmv hd hy hx;exact qnD hx (by omega) hy (by omega) (decide_eq_true (by omega)) (by rw[show ((k+1:Nat):Int)-1=(k:Int) by omega];exact qbe (by omega) (by omega)) (by simpa using fun e=>hne e.symm) (qaL (by omega)) (ih (k+1) (by omega))
theorem qwN {k:Nat} (hl:nn≤1000000):∀ (d j c:Nat) (wv:List Int),k+(j+1)+d=nn→wv.length=nn→c≤k+j→∃ c' wv',c'<nn∧wv'.length=nn∧Rl 1 2 281 1 61 2 [(0,.ls 1 nn),(3,.pv (iV (c:Int))),(4,.lq 1 1 (0+k) (nn-k)),(5,.pv (iV ((j+1:Nat):Int)))] (cmH nn wv) (.exit 2) [(0,.ls 1 nn),(3,.pv (iV (c':Int)))] (cmH nn wv'):=by
 intro d
 induction d with
 | zero=>intro j c wv hd hw hc;exact⟨c,wv,by omega,hw,qDf (decide_eq_false (by omega))⟩
 | succ d ih=>
  intro j c wv hd hw hc;have hx:wv[k+(j+1)]?=some wv[k+(j+1)]:=List.getElem?_eq_getElem (by omega);have hy:wv[k+j]?=some wv[k+j]:=List.getElem?_eq_getElem (by omega)
  have hm:iV (IntKind.i64.wrap (((j+1:Nat):Int)-1))=iV (j:Int):=by rw[show ((j+1:Nat):Int)-1=(j:Int) by omega];exact qbe (by omega) (by omega)
  by_cases e:wv[k+(j+1)]=wv[k+j]
  ·obtain⟨c',wv',h1,h2,r⟩:=ih (j+1) c wv (by omega) hw (by omega);exact⟨c',wv',h1,h2,qvm (by omega) (by omega) hx hy (decide_eq_true (by omega)) hm (by simpa using e) (qaL (by omega)) r⟩
  ·obtain⟨c',wv',h1,h2,r⟩:=ih (j+1) (c+1) (wv.set c wv[k+(j+1)]) (by omega) (by rw[List.length_set];exact hw) (by omega);exact⟨c',wv',h1,h2,qDR (by omega) (by omega) hx hy (decide_eq_true (by omega)) hm (by simpa using e) (by omega) (by omega) (qaL (by omega)) (qaL (by omega)) r⟩
theorem qsq {s:List Int} (hs:s.length=nn) (hl:nn≤1000000) {k:Nat} {x:Int} (h1:s[k]?=some x) (h2:s[k+1]?=some x) (hb:∀ j,j<k→∀ y z,s[j]?=some y→s[j+1]?=some z→z≠y) :
 ∃ c ys,c<nn∧∀ (d q:Nat),q+d=k→Rl 1 2 281 0 61 2 [(0,.ls 1 nn),(3,.pv (iV ((q+1:Nat):Int)))] (cmH nn s) .ret [(2,.lq 1 1 0 c)] [(1,0,.row 3 1 nn ys)]:=by
 have hk1:k+1<nn:=by rw[← hs];exact (List.getElem?_eq_some_iff.1 h2).1
 obtain⟨c,wv,hc,hw,r⟩:=qwN (nn:=nn) (k:=k+1) hl (nn-(k+1+1)) 0 (k+1) s (by omega) hs (by omega);refine⟨c,qf9 (ziV wv) ((0+c)*1) (qdR [iV 0] (nn-c)),hc,?_⟩
 have hrl:(qdR [iV 0] (nn-c)).length=nn-c:=by rw[qfz];simp
 intro d
 induction d with
 | zero=>
  intro q hq
  have:q=k:=by omega
  subst this;exact qAQ h2 (by omega) h1 (by omega) (decide_eq_true (by omega)) (by rw[show ((q+1:Nat):Int)-1=(q:Int) by omega];exact qbe (by omega) (by omega)) (by simp) (by omega) r (by omega) rfl (by omega) (by rw[hrl,qbY];omega)
 | succ d ih=>
  intro q hq;have hx:s[q+1]?=some s[q+1]:=List.getElem?_eq_getElem (by omega);have hy:s[q]?=some s[q]:=List.getElem?_eq_getElem (by omega);have hne:=hb q (by omega) _ _ hy hx;exact qnD hx (by omega) hy (by omega) (decide_eq_true (by omega)) (by rw[show ((q+1:Nat):Int)-1=(q:Int) by omega];exact qbe (by omega) (by omega)) (by simpa using hne) (qaL (by omega)) (ih (q+1) (by omega))
end
def evB (x:Ev):Bool:=okB x.n x.d&&decide (0≤x.k∧x.k≤1000000)
theorem qpd {x:Ev} (hi:EvI x):evB x=true↔EvOk x:=by
 simp only[evB,Bool.and_eq_true,decide_eq_true_eq];exact⟨fun ⟨h1,h2,h3⟩=>⟨hi,h1,h2,h3⟩,fun h=>⟨h.ok,h.k0,h.k1⟩⟩
section
variable {ev:List Ev}
abbrev efT (ev:List Ev) (g:List Int) (k:Nat):List (Nat×SV):=[(0,.ls 0 ev.length),(3,.ls 1 g.length),(6,.ls 0 ev.length),(7,.pv (iV (ev.length:Int))),(8,.pv (iV (k:Int)))]
abbrev efH (ev:List Ev) (g:List Int):List (Nat×Nat×SV):=[(0,0,qap ev),(1,0,zrI g)]
theorem qoA (hl:ev.length≤999999) (h:∀ x∈ev,EvOk x):∀ (d k:Nat),k+d=ev.length→Rl 1 1 226 0 36 2 (efT ev ((ev.map (·.k)).take k) k) (efH ev ((ev.map (·.k)).take k)) (.exit 0) [(0,.ls 0 ev.length),(3,.ls 1 (ev.map (·.k)).length)] (efH ev (ev.map (·.k))):=by
 intro d
 induction d with
 | zero=>
  intro k hk;rw[List.take_of_length_le (by rw[List.length_map];omega)];exact qA9 (decide_eq_false (by omega))
 | succ d ih=>
  intro k hk;have hx:ev[k]?=some ev[k]:=List.getElem?_eq_getElem (by omega);have ok:=h _ (List.getElem_mem (show k<ev.length by omega));have r:=ih (k+1) (by omega);rw[List.take_add_one,List.getElem?_map,hx] at r;have hn:=qg1 ev[k].k;rw[decide_eq_true ⟨ok.k0,ok.k1⟩] at hn;exact qp1 hx (by omega) (decide_eq_true (by omega)) (qcG ok.i.1 ok.i.2 ok.ok) hn (by rw[List.length_take];omega) (qaL (by omega)) r
theorem qrz (hl:ev.length≤999999) (hi:∀ x∈ev,EvI x):∀ (d k:Nat),k+d=ev.length→(∃ j x,k≤j∧ev[j]?=some x∧evB x=false)→Rl 1 1 226 0 36 2 (efT ev ((ev.map (·.k)).take k) k) (efH ev ((ev.map (·.k)).take k)) .ret [(2,.pv (.bool false))] []:=by
 intro d
 induction d with
 | zero=>intro k hk ⟨j,x,a,b,_⟩;have:=(List.getElem?_eq_some_iff.1 b).1;omega
 | succ d ih=>
  intro k hk ⟨j,x,a,b,c⟩;have hx:ev[k]?=some ev[k]:=List.getElem?_eq_getElem (by omega);have oi:=hi _ (List.getElem_mem (show k<ev.length by omega));by_cases h1:okB ev[k].n ev[k].d=true
  ·have hc:=qcG oi.1 oi.2 h1;by_cases h2:0≤ev[k].k∧ev[k].k≤1000000
   ·have hn:=qg1 ev[k].k;rw[decide_eq_true h2] at hn
    have r:=ih (k+1) (by omega) ⟨j,x,by
     rcases Nat.lt_or_ge k j with q | q
     ·exact q
     ·have e:k=j:=by omega
      subst e;rw[hx] at b;cases b
      simp[evB,h1,h2] at c,b,c⟩
    rw[List.take_add_one,List.getElem?_map,hx] at r;exact qp1 hx (by omega) (decide_eq_true (by omega)) hc hn (by rw[List.length_take];omega) (qaL (by omega)) r
   ·have hn:=qg1 ev[k].k;rw[decide_eq_false h2] at hn;exact qAp hx (by omega) (decide_eq_true (by omega)) hc hn
  ·exact qBj hx (by omega) (decide_eq_true (by omega)) (qi0 oi.1 oi.2 h1)
structure EvF (ev:List Ev):Prop where
 ok:∀ x∈ev,EvOk x
 nod:(ev.map (·.k)).Nodup
theorem qdY (hl:ev.length≤999999) (h:EvF ev):Fn 226 1 [.ls 0 ev.length] [(0,0,qap ev)] (.pv (.bool true)) 0 []:=by
 have r:=qoA hl h.ok ev.length 0 (by omega);rw[List.take_zero] at r;have hlen:(ev.map (·.k)).length=ev.length:=List.length_map _;have hso:=qib (ev.map (·.k)) (by omega);have hnd:(sortI (ev.map (·.k))).Nodup:=(qeu _).nodup_iff.2 h.nod;have hsl:=qcW (ev.map (·.k));by_cases h2:(ev.map (·.k)).length<2
 ·exact qjN r hso (decide_eq_true (by omega)) (by simp)
 ·exact qjG r hso (decide_eq_false (by omega)) (qxl hsl (by omega) hnd ((ev.map (·.k)).length-1) 0 (by omega)) (by simp)
theorem qiO (hl:ev.length≤999999) (hi:∀ x∈ev,EvI x) (h:¬ EvF ev):Fn 226 1 [.ls 0 ev.length] [(0,0,qap ev)] (.pv (.bool false)) 0 []:=by
 have hlen:(ev.map (·.k)).length=ev.length:=List.length_map _;by_cases h1:∀ x∈ev,EvOk x
 ·have r:=qoA hl h1 ev.length 0 (by omega);rw[List.take_zero] at r;have hso:=qib (ev.map (·.k)) (by omega)
  have hnn:¬ (ev.map (·.k)).Nodup:=fun e=>h ⟨h1,e⟩
  have hnd:¬ (sortI (ev.map (·.k))).Nodup:=fun e=>hnn ((qeu _).nodup_iff.1 e)
  have hsl:=qcW (ev.map (·.k));obtain⟨k,x,a1,a2,a3⟩:=qtv (qtd _) hnd;have hk:k+1<(sortI (ev.map (·.k))).length:=(List.getElem?_eq_some_iff.1 a2).1;obtain⟨c,ys,hc,hr⟩:=qsq hsl (by omega) a1 a2 a3;exact qAF r hso (decide_eq_false (by omega)) (hr k 0 (by omega)) (by simp;omega)
 ·refine qGB ?_
  have r:=qrz hl hi ev.length 0 (by omega) (by
   simp only[Classical.not_forall] at h1;obtain⟨x,hx,hn⟩:=h1;obtain⟨j,hj⟩:=List.mem_iff_getElem?.1 hx
   exact⟨j,x,by omega,hj,by
    cases e:evB x with
    | false=>rfl
    | true=>exact (hn ((qpd (hi x hx)).1 e)).elim⟩)
  rw[List.take_zero] at r;exact r
end
structure VA (u:List Int) (b:List Bool) (fr:List Int) (ev:List Ev) (wh:List Int):Prop where
 vd:Vd u b fr
 wf:WhF u b ev wh
 ef:EvF ev
 hp:∀ k,1≤k→k<ev.length→qbU ev k=true
section
variable {u fr wh:List Int} {b:List Bool} {ev:List Ev}
theorem VA.lens (h:VA u b fr ev wh):u.length≤200∧b.length=u.length∧wh.length=u.length∧ev.length≤200∧fr.length≤200∧1≤u.length:=by
 have h1:=h.vd.le;have h2:=h.vd.len;have h3:=h.wf.len;have h4:=h.wf.cnt;have h5:=List.count_le_length (a:=true) (l:=b);have h6:=h.vd.frlen;have h7:=h.vd.pos;omega
theorem qcX (h:VA u b fr ev wh):Fn 177 5 [agA u b fr ev wh] (agP u b fr ev wh) (.pv (iV 0)) 0 []:=by
 have hl:=h.lens;exact qBn (qbv h.vd) (qcH (by omega) (by omega) h.wf) (qdY (by omega) h.ef) (qmP h.ef.ok (by omega) h.hp)
theorem qlA (hf:fr.length≤1000000) (he:ev.length≤999999) (hi:∀ x∈ev,EvI x) (h:¬ VA u b fr ev wh):Fn 177 5 [agA u b fr ev wh] (agP u b fr ev wh) (.pv (iV 8)) 0 []:=by
 by_cases h1:Vd u b fr
 ·have a1:=h1.le;have a2:=h1.len;by_cases h2:WhF u b ev wh
  ·by_cases h3:EvF ev
   ·refine qBQ (qbv h1) (qcH (by omega) (by omega) h2) (qdY he h3) (qoo h3.ok (by omega) ?_);apply Classical.byContradiction;intro hn
    exact h ⟨h1,h2,h3,fun k b1 b2=>by
     cases e:qbU ev k with
     | true=>rfl
     | false=>exact (hn ⟨k,b1,b2,e⟩).elim⟩
   ·exact qCd (qbv h1) (qcH (by omega) (by omega) h2) (qiO he hi h3)
  ·exact qDt (qbv h1) (qhW (by omega) (by omega) h2)
 ·exact qBG (qlN hf h1)
end
end Go.Proofs.YtkckcgpmnipnaaaGreat

namespace Go.Proofs.YtkckcgpmnipnaaaGreat
set_option maxRecDepth 100000
open Go.RowKit
variable {n c k j mm:Nat} {ad:Addr} {ev:List Ev} {x y:Ev} {wh u2 f2:List Int} {b2:List Bool}
theorem qs3 (n:Nat):SV.ls 2 (0+n)=(SV.ls 1 n).ren (qaM [(1,2)]):=by rw[Nat.zero_add];rfl
theorem qhn (e:TypeId) (es n:Nat) (xs:List Value):some (SV.row e es (0+n) ([]++xs))=some (SV.row e es n xs):=by rw[Nat.zero_add,List.nil_append]
theorem qqp {xs:List Value} (h0:0<n) (hn:0+n≤1000000) :
 Fn 143 1 [.ls 0 n] [(0,0,.row 61 5 n xs)] (.ls 1 n) 1 [(1,0,.row 61 5 n xs)]:=
 Fx [(1,2)] [.t false]
  (qs3 n) (Ai (qhn 61 5 n xs) tI) (A2 h0 hn tI)
theorem qGl:
 Fn 143 0 [.pv (.slice (some ad) 0 c)] [] (.ls 0 0) 1 [(0,0,.row 61 5 0 [])]:=
 Fz [(0,1)] [.k]
  (qaG (qaM [(0,1)]) [(0,0,.row 61 5 0 [])]) (Ai (Nat.zero_le _:0+0≤1000000) tI)
theorem qxS:Pure Tryz.prog 143 #[.slice none 0 c] (.slice none 0 0):=
 qaJ (args:=[.slice none 0 c]) 200 [] (Ai rfl tI) (by kernel_rfl)
theorem qoc {l:List Bool} (h0:0<l.length) (hn:0+l.length≤1000000) :
 Fn 140 1 [.ls 0 l.length] [(0,0,zrB l)] (.ls 1 l.length) 1 [(1,0,zrB l)]:=
 Fx [(1,2)] [.t false]
  (qs3 l.length) (Ai (qhn 4 1 l.length (zbV l)) tI) (A2 h0 hn tI)
theorem qCg:
 Fn 140 0 [.pv (.slice (some ad) 0 c)] [] (.ls 0 0) 1 [(0,0,.row 4 1 0 [])]:=
 Fz [(0,1)] [.k]
  (qaG (qaM [(0,1)]) [(0,0,.row 4 1 0 [])]) (Ai (Nat.zero_le _:0+0≤1000000) tI)
theorem qrD:Pure Tryz.prog 140 #[.slice none 0 c] (.slice none 0 0):=
 qaJ (args:=[.slice none 0 c]) 200 [] (Ai rfl tI) (by kernel_rfl)
theorem qAx (n:Nat):SV.ls 5 (0+n+1)=(SV.ls 3 (n+1)).ren (qaM [(3,5)]):=by rw[Nat.zero_add];rfl
theorem qsR (l:List Ev) (x:Ev):some (SV.row 61 5 (0+l.length+1) ([]++qau l++ecV x))=some (SV.row 61 5 (l.length+1) (qau (l++[x]))):=by rw[Nat.zero_add,List.nil_append,qcL];rfl
theorem qGI {z:Int} (h0:decide (z<0)=false) (hs:iV (IntKind.i64.wrap (z-0))=iV (z)) (hg:decide (z>0)=true) (a0:0≤z) (a1:z≤1000000) :
 Fn 349 0 [.pv (.slice none 0 0),.pv (iV (z))] [] (.ls 0 0) 1 [(0,0,.row 61 5 0 [])]:=
 Fz [(0,1)] [.t false,.k,Re hs,.t true,.w []]
  (qaG (qaM [(0,1)]) [(0,0,.row 61 5 0 [])]) (A7 h0 hs hg a0 a1 (Int.le_refl (0:Int)) (Nat.zero_le z.toNat) tI)
abbrev qJh (ev:List Ev) (x:Ev):HpL:=[(2,0,.ls 0 ev.length),(2,1,.ps 1 0 1 1),(1,0,.pv (iV x.n)),(1,1,.pv (iV x.d)),(1,2,.pv (iV x.k)),(1,3,.pv (iV x.i)),(1,4,.pv (iV x.w)),(0,0,qap ev)]
theorem qJy (q1:iV (IntKind.i64.wrap ((0:Int)+(ev.length:Int)))=iV (ev.length:Int)) (n1:decide ((ev.length:Int)<0)=false) (q2:iV (IntKind.i64.wrap ((ev.length:Int)+1))=iV (((ev.length+1:Nat):Int))) (n2:decide (((ev.length+1:Nat):Int)<0)=false) (hgr:Fn 349 0 [.pv (.slice none 0 0),.pv (iV (((ev.length+1:Nat):Int)))] [] (.ls 0 0) 1 [(0,0,.row 61 5 0 [])]) (a1:0+ev.length≤1000000) (a2:0+ev.length+1≤1000000) :
 Fn 339 3 [.ps 2 0 2 2] (qJh ev x) (.ls 3 (ev.length+1)) 1 [(3,0,.row 61 5 (ev.length+1) (qau (ev++[x])))]:=
 Fx [(3,5)] [.k,Re q1,.t false,.k,.k,Re q2,.t false,.k,.k,Cf hgr [],.k,.k,.k,.k,.k]
  (qAx ev.length) (Ai (qsR ev x) tI) (A4 q1 n1 q2 n2 (Co hgr [] 3 (A2 a1 a2 tI)))
abbrev qGO (b2:List Bool) (ev:List Ev) (f2:List Int) (mm:Nat) (n:Nat) (u2:List Int) (wh:List Int):HpL:=[(19,0,.ls 5 u2.length),(19,1,.ls 6 b2.length),(19,2,.ls 7 f2.length),(19,3,.ls 14 n),(19,4,.ls 15 mm),(16,0,.ls 5 u2.length),(16,1,.ls 6 b2.length),(16,2,.ls 7 f2.length),(16,3,.ls 14 n),(16,4,.ls 15 mm),(11,0,.pv (.slice none 0 0)),(11,1,.pv (.slice none 0 0)),(11,2,.pv (.slice none 0 0)),(11,3,.pv (.slice none 0 0)),(11,4,.pv (.slice none 0 0)),(14,0,.row 61 5 n (qau (ev))),(15,0,.row 3 1 mm (ziV (wh)))]
theorem qma (hin_x:0≤(k:Int)∧(k:Int)<(n:Int)) (he_x:ev[k]?=some x) (hin_y:0≤(j:Int)∧(j:Int)<(n:Int)) (he_y:ev[j]?=some y) (h0:decide ((k:Int)>0)=true) (hp:Pure Tryz.prog 283 #[iV (k:Int)] (iV (j:Int))) (hl:Pure Tryz.prog 282 #[qaa x,qaa y] (.bool true)) (hla:k<(ev).length) (hwb:0≤y.i∧y.i<(mm:Int)) (hwbl:y.i.toNat<(wh).length) (hlb:j<((ev).set k y).length) (hwa:0≤x.i∧x.i<(mm:Int)) (hwal:x.i.toNat<((wh).set y.i.toNat (k:Int)).length) {e:Exit} {tm2:TmL} {hp2:HpL}
 (r:Rl 8 19 334 0 29 20 ([(1,.pv (iV (j:Int))),(2,.pp 19 0)]) ([(19,0,.ls 5 u2.length),(19,1,.ls 6 b2.length),(19,2,.ls 7 f2.length),(19,3,.ls 14 n),(19,4,.ls 15 mm),(16,0,.ls 5 u2.length),(16,1,.ls 6 b2.length),(16,2,.ls 7 f2.length),(16,3,.ls 14 n),(16,4,.ls 15 mm),(11,0,.pv (.slice none 0 0)),(11,1,.pv (.slice none 0 0)),(11,2,.pv (.slice none 0 0)),(11,3,.pv (.slice none 0 0)),(11,4,.pv (.slice none 0 0)),(14,0,.row 61 5 n (qau (((ev).set k y).set j x))),(15,0,.row 3 1 mm (ziV (((wh).set y.i.toNat (k:Int)).set x.i.toNat (j:Int))))]) e tm2 hp2):Rl 8 19 334 0 29 20 ([(1,.pv (iV (k:Int))),(2,.pp 19 0)]) (qGO b2 ev f2 mm n u2 wh) e tm2 hp2:=
 RunsL.next [] 300 [.t true,.r (qaa x),Rf hp,.r (qaa y),Rf hl,Rf hp,.k,.r (qaa x),.r (qaa y),.k,.w (qau ((ev).set k y)),.w (ziV ((wh).set y.i.toNat (k:Int))),.k,.w (qau (((ev).set k y).set j x)),.w (ziV (((wh).set y.i.toNat (k:Int)).set x.i.toNat (j:Int))),Rf hp]
  (Ro (A9 h0 hin_x (qaF he_x) hp hin_y (qaF he_y) hl hp hin_x (A9 (qaF he_x) hin_y (qaF he_y) hin_x (qdk (ev) k y hla) (qbl (ev) k hla) hwb (qcB (wh) y.i.toNat (k:Int) hwbl) (qaQ (wh) y.i.toNat hwbl) (A7 hin_y (qdk ((ev).set k y) j x hlb) (qbl ((ev).set k y) j hlb) hwa (qcB ((wh).set y.i.toNat (k:Int)) x.i.toNat (j:Int) hwal) (qaQ ((wh).set y.i.toNat (k:Int)) x.i.toNat hwal) hp tI)))) r
abbrev qI0 (b2:List Bool) (ev:List Ev) (f2:List Int) (mm:Nat) (n:Nat) (u2:List Int) (wh:List Int):HpL:=[(16,0,.ls 5 u2.length),(16,1,.ls 6 b2.length),(16,2,.ls 7 f2.length),(16,3,.ls 14 n),(16,4,.ls 15 mm),(11,0,.pv (.slice none 0 0)),(11,1,.pv (.slice none 0 0)),(11,2,.pv (.slice none 0 0)),(11,3,.pv (.slice none 0 0)),(11,4,.pv (.slice none 0 0)),(14,0,.row 61 5 n (qau (ev))),(15,0,.row 3 1 mm (ziV (wh)))]
theorem qmt (hin_x:Bd k n) (he_x:ev[k]?=some x) (hin_y:Bd j n) (he_y:ev[j]?=some y) (h0:Dt ((k:Int)>0)) (hp:Pure Tryz.prog 283 #[iV (k:Int)] (iV (j:Int))) (hl:yc x y):Rl 8 19 334 0 29 20 ([(1,.pv (iV (k:Int))),(2,.pp 19 0)]) (qGO b2 ev f2 mm n u2 wh) (.exit 0) ([(1,.pv (iV (k:Int)))]) (qI0 b2 ev f2 mm n u2 wh):=
 RunsL.stop [] 300 [.t true,.r (qaa x),Rf hp,.r (qaa y),Rf hl] (fun h=>by cases h)
  (Ro (A7 h0 hin_x (qaF he_x) hp hin_y (qaF he_y) hl tI))
theorem qmx (h0:decide ((k:Int)>0)=false):Rl 8 19 334 0 29 20 ([(1,.pv (iV (k:Int))),(2,.pp 19 0)]) (qGO b2 ev f2 mm n u2 wh) (.exit 0) ([(1,.pv (iV (k:Int)))]) (qI0 b2 ev f2 mm n u2 wh):=
 RunsL.stop [] 300 [.t false] (fun h=>by cases h)
  (Ro (Ai h0 tI))
theorem qyZ {u fr wh3:List Int} {b:List Bool} {ev3:List Ev} {k n p:Nat} (hcat:Fn 339 3 [.ps 2 0 2 2] (qJh ev x) (.ls 3 (ev.length+1)) 1 [(3,0,.row 61 5 (ev.length+1) (qau (ev++[x])))]) (hcl:Fn 63 1 [.ls 0 wh.length] [(0,0,zrI wh)] (.ls 1 wh.length) 1 [(1,0,zrI wh)]) (hin:0≤(ev.length:Int)∧(ev.length:Int)<((ev.length+1:Nat):Int)) (hset:ev.length<(ev++[x]).length) (hwi:0≤x.i∧x.i<(wh.length:Int)) (hwset:x.i.toNat<wh.length) (r0:Rl 8 19 334 0 29 20 ([(1,.pv (iV (ev.length:Int))),(2,.pp 19 0)]) ([(19,0,.ls 5 u2.length),(19,1,.ls 6 b2.length),(19,2,.ls 7 f2.length),(19,3,.ls 14 (ev.length+1)),(19,4,.ls 15 wh.length),(16,0,.ls 5 u2.length),(16,1,.ls 6 b2.length),(16,2,.ls 7 f2.length),(16,3,.ls 14 (ev.length+1)),(16,4,.ls 15 wh.length),(11,0,.pv (.slice none 0 0)),(11,1,.pv (.slice none 0 0)),(11,2,.pv (.slice none 0 0)),(11,3,.pv (.slice none 0 0)),(11,4,.pv (.slice none 0 0)),(14,0,.row 61 5 (ev.length+1) (qau ((ev++[x]).set ev.length x))),(15,0,.row 3 1 wh.length (ziV (wh.set x.i.toNat (ev.length:Int))))]) (.exit 0) ([(1,.pv (iV (p:Int)))]) ([(16,0,.ls 5 u2.length),(16,1,.ls 6 b2.length),(16,2,.ls 7 f2.length),(16,3,.ls 14 (ev.length+1)),(16,4,.ls 15 wh.length),(11,0,.pv (.slice none 0 0)),(11,1,.pv (.slice none 0 0)),(11,2,.pv (.slice none 0 0)),(11,3,.pv (.slice none 0 0)),(11,4,.pv (.slice none 0 0)),(14,0,.row 61 5 (ev.length+1) (qau (ev3))),(15,0,.row 3 1 wh.length (ziV (wh3)))])) :
 Fn 316 8 [agA u b fr ev wh,.ag [.ls 5 u2.length,.ls 6 b2.length,.ls 7 f2.length],.pv (qaa x)] [(0,0,zrI u),(1,0,zrB b),(2,0,zrI fr),(3,0,qap ev),(4,0,zrI wh),(5,0,zrI u2),(6,0,zrB b2),(7,0,zrI f2)] (.ag [.ls 5 u2.length,.ls 6 b2.length,.ls 7 f2.length,.ls 8 (ev.length+1),.ls 9 wh.length]) 2 [(8,0,.row 61 5 (ev.length+1) (qau (ev3))),(9,0,.row 3 1 wh.length (ziV (wh3)))]:=
 Fz [(8,14),(9,15)] [.md,Cf hcat [3,12,13],Cf hcl [4],.k,.w (qau ((ev++[x]).set ev.length x)),.w (ziV ((wh).set x.i.toNat (ev.length:Int))),.k,Lf r0]
  (qaG (qaM [(8,14),(9,15)]) [(8,0,.row 61 5 (ev.length+1) (qau (ev3))),(9,0,.row 3 1 wh.length (ziV (wh3)))]) (Co hcat [3,12,13] 14 (Co hcl [4] 15 (A6 hin (qdk (ev++[x]) ev.length x hset) (qbl (ev++[x]) ev.length hset) hwi (qcB (wh) x.i.toNat (ev.length:Int) hwset) (qaQ (wh) x.i.toNat hwset) (Lo r0 [] tI))))
end Go.Proofs.YtkckcgpmnipnaaaGreat
