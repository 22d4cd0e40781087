/-
  Joined: Kb, Kc, Kf. Conditions: none.
-/
import Derived.Test.YtkckcgpmnipnaaaGreatW21
import Derived.Test.YtkckcgpmnipnaaaGreatW16
namespace Go.Proofs.YtkckcgpmnipnaaaGreat
set_option maxRecDepth 100000
open Go.RowKit
variable {a b x y:Int} {l m:List Pt} {k:Nat} {p:Pt}
theorem qHS (h0:Df (0≤a)) :
 Pure Tryz.prog 317 #[iV a] (.bool false):=
 qad (args:=[iV a]) 300 [.t false]
  (A2 rfl h0 tI) (by kernel_rfl)
theorem qFk (h0:Dt (0≤a)) (h1:Df (a≤65535)) :
 Pure Tryz.prog 317 #[iV a] (.bool false):=
 qad (args:=[iV a]) 300 [.t true,.t false]
  (A3 rfl h0 h1 tI) (by kernel_rfl)
theorem qIF (h0:Dt (0≤a)) (h1:Dt (a≤65535)) :
 Pure Tryz.prog 317 #[iV a] (.bool true):=
 qad (args:=[iV a]) 300 [.t true,.t true]
  (A3 rfl h0 h1 tI) (by kernel_rfl)
theorem qJD (ha:Pure Tryz.prog 317 #[iV a] (.bool false)) :
 Pure Tryz.prog 273 #[qae a b] (.bool false):=
 qad (args:=[qae a b]) 300 [Rf ha]
  (A2 rfl ha tI) (by kernel_rfl)
theorem qJr (ha:Pure Tryz.prog 317 #[iV a] (.bool true)) (hb:Pure Tryz.prog 317 #[iV b] (.bool false)) :
 Pure Tryz.prog 273 #[qae a b] (.bool false):=
 qad (args:=[qae a b]) 300 [Rf ha,Rf hb]
  (A3 rfl ha hb tI) (by kernel_rfl)
theorem qGF (ha:Pure Tryz.prog 317 #[iV a] (.bool true)) (hb:Pure Tryz.prog 317 #[iV b] (.bool true)) (hn:(a !=b)=true) :
 Pure Tryz.prog 273 #[qae a b] (.bool true):=
 qad (args:=[qae a b]) 300 [Rf ha,Rf ha,.t true]
  (A4 rfl ha hb hn tI) (by kernel_rfl)
theorem qFy (ha:Pure Tryz.prog 317 #[iV a] (.bool true)) (hb:Pure Tryz.prog 317 #[iV b] (.bool true)) (hn:(a !=b)=false) :
 Pure Tryz.prog 273 #[qae a b] (.bool false):=
 qad (args:=[qae a b]) 300 [Rf ha,Rf ha,.t false]
  (A4 rfl ha hb hn tI) (by kernel_rfl)
abbrev qzG (l:List Pt) (x:Int):HpL:=[(1,0,.pv (iV x)),(1,1,.ls 0 l.length),(0,0,qak l)]
abbrev qHe (k:Nat) (l:List Pt) (y:Int):TmL:=[(1,.pp 1 0),(3,.pv (iV (y))),(7,.ls 0 l.length),(8,.pv (iV (l.length:Int))),(9,.pv (iV (k:Int)))]
theorem qvr (hk:l[k]?=some p) (hin:Bd k l.length) (hlt:Dt ((k:Int)<(l.length:Int))) (hle:Df (p.id≤y)) (hs:iV (IntKind.i64.wrap ((k:Int)+1))=iV (((k+1:Nat):Int))) {e:Exit} {tm2:TmL} {hp2:HpL}
 (r:Rl 1 1 228 0 29 2 ([(1,.pp 1 0),(3,.pv (iV (p.id))),(7,.ls 0 l.length),(8,.pv (iV (l.length:Int))),(9,.pv (iV ((k+1:Nat):Int)))]) (qzG l x) e tm2 hp2):Rl 1 1 228 0 29 2 (qHe k l y) (qzG l x) e tm2 hp2:=
 RunsL.next [] 300 [.t true,.r (ptV p),.t false,Re hs]
  (Ro (A5 hlt hin (qaB hk) hle hs tI)) r
theorem qCH (hk:l[k]?=some p) (hin:Bd k l.length) (hlt:Dt ((k:Int)<(l.length:Int))) (hle:decide (p.id≤y)=true):Rl 1 1 228 0 29 2 (qHe k l y) (qzG l x) (.ret) ([(2,.pv (.bool false))]) ([]):=
 RunsL.stop [] 300 [.t true,.r (ptV p),.t true] (fun h=>by cases h)
  (Ro (A4 hlt hin (qaB hk) hle tI))
theorem qEa (hge:decide ((k:Int)<(l.length:Int))=false):Rl 1 1 228 0 29 2 (qHe k l y) (qzG l x) (.exit 0) ([(1,.pp 1 0),(3,.pv (iV (y)))]) (qzG l x):=
 RunsL.stop [] 300 [.t false] (fun h=>by cases h)
  (Ro (Ai hge tI))
theorem qGJ (r0:Rl 1 1 228 0 29 2 ([(1,.pp 1 0),(3,.pv (iV (-1))),(7,.ls 0 l.length),(8,.pv (iV (l.length:Int))),(9,.pv (iV ((0:Nat):Int)))]) (qzG l x) (.ret) ([(2,.pv (.bool false))]) ([])) :
 Fn 228 1 [qaU 0 x l] [(0,0,qak l)] (.pv (.bool false)) 0 []:=
 Fz [] [Lf r0]
  tI (Lo r0 [] tI)
abbrev qGT (l:List Pt) (x:Int) (y:Int):Prop:=Rl 1 1 228 0 29 2 ([(1,.pp 1 0),(3,.pv (iV (-1))),(7,.ls 0 l.length),(8,.pv (iV (l.length:Int))),(9,.pv (iV ((0:Nat):Int)))]) ([(1,0,.pv (iV x)),(1,1,.ls 0 l.length),(0,0,qak l)]) (.exit 0) ([(1,.pp 1 0),(3,.pv (iV (y)))]) ([(1,0,.pv (iV x)),(1,1,.ls 0 l.length),(0,0,qak l)])
theorem qHk (r0:qGT l x y) (h1:Df (y<x)) :
 Fn 228 1 [qaU 0 x l] [(0,0,qak l)] (.pv (.bool false)) 0 []:=
 Fz [] [Lf r0,.t false]
  tI (Lo r0 [] (Ai h1 tI))
theorem qGw (r0:qGT l x y) (h1:Dt (y<x)) (h2:Df (x≤1000000)) :
 Fn 228 1 [qaU 0 x l] [(0,0,qak l)] (.pv (.bool false)) 0 []:=
 Fz [] [Lf r0,.t true,.t false]
  tI (Lo r0 [] (A2 h1 h2 tI))
theorem qGz (r0:qGT l x y) (h1:Dt (y<x)) (h2:Dt (x≤1000000)) :
 Fn 228 1 [qaU 0 x l] [(0,0,qak l)] (.pv (.bool true)) 0 []:=
 Fz [] [Lf r0,.t true,.t true]
  tI (Lo r0 [] (A2 h1 h2 tI))
abbrev qEq (k:Nat) (l:List Pt):TmL:=[(3,.mp 1),(9,.ls 0 l.length),(10,.pv (iV (l.length:Int))),(11,.pv (iV (k:Int)))]
theorem qA1 (hk:l[k]?=some p) (hin:0≤(k:Int)∧(k:Int)<(l.length:Int)) (hlt:decide ((k:Int)<(l.length:Int))=true) (hv:Pure Tryz.prog 273 #[qae p.a p.b] (.bool false)):Rl 1 1 229 0 29 2 (qEq k l) ([(1,0,.mrow (qaI (m))),(0,0,qak l)]) (.ret) ([(2,.pv (.bool false))]) ([]):=
 RunsL.stop [] 300 [.t true,.r (ptV p),Rf hv,.k] (fun h=>by cases h)
  (Ro (A4 hlt hin (qaB hk) hv tI))
theorem qDK (hk:l[k]?=some p) (hin:0≤(k:Int)∧(k:Int)<(l.length:Int)) (hlt:decide ((k:Int)<(l.length:Int))=true) (hv:Pure Tryz.prog 273 #[qae p.a p.b] (.bool true)) (hL:qbu Tryz.prog 167 (qaI m) (qae p.a p.b) false (.bool true)):Rl 1 1 229 0 29 2 (qEq k l) ([(1,0,.mrow (qaI (m))),(0,0,qak l)]) (.ret) ([(2,.pv (.bool false))]) ([]):=
 RunsL.stop [] 300 [.t true,.r (ptV p),Rf hv,.k,Rf hv] (fun h=>by cases h)
  (Ro (A5 hlt hin (qaB hk) hv hL tI))
theorem qwF (hk:l[k]?=some p) (hin:0≤(k:Int)∧(k:Int)<(l.length:Int)) (hlt:decide ((k:Int)<(l.length:Int))=true) (hv:Pure Tryz.prog 273 #[qae p.a p.b] (.bool true)) (hL:qbu Tryz.prog 167 (qaI m) (qae p.a p.b) false (.bool false)) (hP:qiG Tryz.prog 167 (qaI m) (qae p.a p.b) (.bool true) (qaI (m++[p]))) (hs:iV (IntKind.i64.wrap ((k:Int)+1))=iV (((k+1:Nat):Int))) {e:Exit} {tm2:TmL} {hp2:HpL}
 (r:Rl 1 1 229 0 29 2 ([(3,.mp 1),(9,.ls 0 l.length),(10,.pv (iV (l.length:Int))),(11,.pv (iV ((k+1:Nat):Int)))]) ([(1,0,.mrow (qaI (m++[p]))),(0,0,qak l)]) e tm2 hp2):Rl 1 1 229 0 29 2 (qEq k l) ([(1,0,.mrow (qaI (m))),(0,0,qak l)]) e tm2 hp2:=
 RunsL.next [] 300 [.t true,.r (ptV p),Rf hv,.k,.r (.bool false),.w (qaI (m++[p])),Re hs]
  (Ro (A7 hlt hin (qaB hk) hv hL hP hs tI)) r
theorem qCv (hge:decide ((k:Int)<(l.length:Int))=false):Rl 1 1 229 0 29 2 (qEq k l) ([(1,0,.mrow (qaI (m))),(0,0,qak l)]) (.exit 0) ([]) ([]):=
 RunsL.stop [] 300 [.t false] (fun h=>by cases h)
  (Ro (Ai hge tI))
theorem qAs (r0:Rl 1 1 229 0 29 2 ([(3,.mp 1),(9,.ls 0 l.length),(10,.pv (iV (l.length:Int))),(11,.pv (iV ((0:Nat):Int)))]) ([(1,0,.mrow (qaI ([]))),(0,0,qak l)]) (.ret) ([(2,.pv (.bool false))]) ([])) :
 Fn 229 1 [.ls 0 l.length] [(0,0,qak l)] (.pv (.bool false)) 0 []:=
 Fz [] [Lf r0]
  tI (Lo r0 [] tI)
theorem qH5 (r0:Rl 1 1 229 0 29 2 ([(3,.mp 1),(9,.ls 0 l.length),(10,.pv (iV (l.length:Int))),(11,.pv (iV ((0:Nat):Int)))]) ([(1,0,.mrow (qaI ([]))),(0,0,qak l)]) (.exit 0) ([]) ([])) :
 Fn 229 1 [.ls 0 l.length] [(0,0,qak l)] (.pv (.bool true)) 0 []:=
 Fz [] [Lf r0]
  tI (Lo r0 [] tI)
theorem qtI (h2:Dt ((l.length:Int)>200)) :
 Fn 178 1 [qaU 0 x l] [(0,0,qak l)] (.pv (iV (8))) 0 []:=
 Fz [] [.t true]
  tI (Ai h2 tI)
theorem qwc (h2:Df ((l.length:Int)>200)) (hn:Fn 228 1 [qaU 0 x l] [(0,0,qak l)] (.pv (.bool false)) 0 []) :
 Fn 178 1 [qaU 0 x l] [(0,0,qak l)] (.pv (iV (8))) 0 []:=
 Fz [] [.t false,Cf hn [0],.k]
  tI (Ai h2 (Co hn [0] 2 tI))
theorem quK (h2:Df ((l.length:Int)>200)) (hn:Fn 228 1 [qaU 0 x l] [(0,0,qak l)] (.pv (.bool true)) 0 []) (hc:Fn 229 1 [.ls 0 l.length] [(0,0,qak l)] (.pv (.bool false)) 0 []) :
 Fn 178 1 [qaU 0 x l] [(0,0,qak l)] (.pv (iV (8))) 0 []:=
 Fz [] [.t false,Cf hn [0],.k,Cf hc [0],.k]
  tI (Ai h2 (Co hn [0] 2 (Co hc [0] 2 tI)))
theorem qAf (h2:Df ((l.length:Int)>200)) (hn:Fn 228 1 [qaU 0 x l] [(0,0,qak l)] (.pv (.bool true)) 0 []) (hc:Fn 229 1 [.ls 0 l.length] [(0,0,qak l)] (.pv (.bool true)) 0 []) :
 Fn 178 1 [qaU 0 x l] [(0,0,qak l)] (.pv (iV (0))) 0 []:=
 Fz [] [.t false,Cf hn [0],.k,Cf hc [0],.k]
  tI (Ai h2 (Co hn [0] 2 (Co hc [0] 2 tI)))
end Go.Proofs.YtkckcgpmnipnaaaGreat

namespace Go.Proofs.YtkckcgpmnipnaaaGreat
set_option maxRecDepth 100000
open Go.RowKit
theorem qtQ (a:Int):∃ b,Pure Tryz.prog 317 #[iV a] (.bool b)∧(b=true↔0≤a∧a≤65535):=by
 by_cases h0:0≤a
 ·by_cases h1:a≤65535
  ·exact⟨true,qIF (dt h0) (dt h1),⟨fun _=>⟨h0,h1⟩,fun _=>rfl⟩⟩
  ·exact⟨false,qFk (dt h0) (df h1),⟨fun h=>(by cases h),fun h=>(h1 h.2).elim⟩⟩
 ·exact⟨false,qHS (df h0),⟨fun h=>(by cases h),fun h=>(h0 h.1).elim⟩⟩
theorem qk2 (a b:Int):Pure Tryz.prog 273 #[qae a b] (.bool (qby a b)):=by
 obtain⟨u,hu,hu2⟩:=qtQ a;obtain⟨v,hv,hv2⟩:=qtQ b;cases u
 ·rw[show qby a b=false by
   cases h:qby a b
   ·rfl
   ·have:=qbn.1 h;have:=hu2.2 ⟨this.1,this.2.1⟩;cases this]
  exact qJD hu
 ·cases v
  ·rw[show qby a b=false by
    cases h:qby a b
    ·rfl
    ·have:=qbn.1 h;have:=hv2.2 ⟨this.2.2.1,this.2.2.2.1⟩;cases this]
   exact qJr hu hv
  ·have h1:=hu2.1 rfl;have h2:=hv2.1 rfl;by_cases hab:a=b
   ·rw[show qby a b=false by
     cases h:qby a b
     ·rfl
     ·exact ((qbn.1 h).2.2.2.2 hab).elim]
    exact qFy hu hv (by simpa using hab)
   ·rw[qbn.2 ⟨h1.1,h1.2,h2.1,h2.2,hab⟩];exact qGF hu hv (by simpa using hab)
def lst (m:List Pt):Int:=match m.getLast? with
 | none=>-1
 | some p=>p.id
theorem qjk:lst [] = -1:=rfl
theorem qfd (m:List Pt) (p:Pt):lst (m++[p])=p.id:=by simp[lst]
abbrev nfT (l:List Pt) (k:Nat) (y:Int):List (Nat×SV):=[(1,.pp 1 0),(3,.pv (iV (y))),(7,.ls 0 l.length),(8,.pv (iV (l.length:Int))),(9,.pv (iV (k:Int)))]
abbrev nfH (x:Int) (l:List Pt):List (Nat×Nat×SV):=[(1,0,.pv (iV x)),(1,1,.ls 0 l.length),(0,0,qak l)]
def Inc (l:List Pt):Prop:=∀ (k:Nat) (p:Pt),l[k]?=some p→lst (l.take k)<p.id
theorem Inc.up {l:List Pt} (h:Inc l):Up l:=fun k p q hp hq=>by
 have:=h (k+1) q hq;rw[qb0 hp,qfd] at this;exact this
theorem Inc.lo {l:List Pt} (h:Inc l):∀ p∈l,0≤p.id:=by
 have key:∀ (k:Nat) (p:Pt),l[k]?=some p→0≤p.id:=by
  intro k
  induction k with
  | zero=>intro p hp;have:=h 0 p hp;rw[List.take_zero,qjk] at this;omega
  | succ k ih=>
   intro p hp;obtain⟨q,hq⟩:=qah (l:=l) (k:=k) (by have:=qan hp;omega);have:=ih q hq;have:=h.up k q p hq hp;omega
 intro p hp;obtain⟨k,hk,rfl⟩:=List.getElem_of_mem hp;exact key k _ (List.getElem?_eq_getElem hk)
theorem Inc.of {l:List Pt} (h:Up l) (h0:∀ p∈l,0≤p.id):Inc l:=fun k p hp=>by
 cases k with
 | zero=>rw[List.take_zero,qjk];have:=h0 p (List.mem_of_getElem? hp);omega
 | succ k=>
  obtain⟨q,hq⟩:=qah (l:=l) (k:=k) (by have:=qan hp;omega);rw[qb0 hq,qfd];exact h k q p hq hp
theorem Inc.lt {l:List Pt} (h:Inc l) {x:Int}:lst l<x↔(∀ p∈l,p.id<x)∧0≤x:=by
 have hup:=h.up;have hlo:=h.lo
 rcases List.eq_nil_or_concat l with rfl | ⟨m,q,rfl⟩
 ·rw[qjk];exact⟨fun h=>⟨fun p hp=>by simp at hp,by omega⟩,fun h=>by omega⟩
 ·rw[List.concat_eq_append,qfd];rw[List.concat_eq_append] at hup hlo;refine⟨fun hx=>⟨fun p hp=>?_,by have:=hlo q (by simp);omega⟩,fun hx=>hx.1 q (by simp)⟩;obtain⟨k,hk,rfl⟩:=List.getElem_of_mem hp
  rcases Nat.lt_or_ge k m.length with h1 | h1
  ·have:=hup.mono h1 (List.getElem?_eq_getElem hk) (show (m++[q])[m.length]?=some q by simp);omega
  ·have hkm:k=m.length:=by simp at hk;omega
   subst hkm;simpa using hx
theorem qCT (x:Int) {l:List Pt} (hn:l.length≤1000000):∃ b,Fn 228 1 [qaU 0 x l] [(0,0,qak l)] (.pv (.bool b)) 0 []∧(b=true↔Inc l∧(∀ p∈l,p.id<x)∧0≤x∧x≤1000000):=by
 have step:∀ k,(∀ j,j<k→∀ p,l[j]?=some p→lst (l.take j)<p.id)→∀ {e:Exit} {tm2:TmL} {hp2:HpL},k≤l.length→
  Rl 1 1 228 0 29 2 (nfT l k (lst (l.take k))) (nfH x l) e tm2 hp2→Rl 1 1 228 0 29 2 (nfT l 0 (-1)) (nfH x l) e tm2 hp2:=by
  intro k hk e tm2 hp2 hkl r;refine RunsL.rounds (fun j=>nfT l j (lst (l.take j))) (fun _=>nfH x l) (N:=k) k 0 (Nat.zero_add _) (fun j _ hj r=>?_) r;obtain⟨p,hp⟩:=qah (l:=l) (k:=j) (by omega);refine qvr hp (qal (qan hp)) (dt (by have:=qan hp;omega)) (df (by have:=hk j hj p hp;omega)) (qag (by omega)) ?_
  have e1:lst (l.take (j+1))=p.id:=by rw[qb0 hp,qfd]
  rw[← e1];exact r
 rcases qa3 (fun j=>∀ p,l[j]?=some p→lst (l.take j)<p.id) l.length with h | ⟨j,hj,hb,hf⟩
 ·have hi:Inc l:=fun k p hp=>h k (qan hp) p hp
  have hend:=step l.length (fun j hj=>h j hj) (Nat.le_refl _) (e:=.exit 0) (qEa (df (by omega)));rw[List.take_length] at hend;by_cases h1:lst l<x
  ·by_cases h2:x≤1000000
   ·exact⟨true,qGz hend (dt h1) (dt h2),⟨fun _=>⟨hi,(hi.lt.1 h1).1,(hi.lt.1 h1).2,h2⟩,fun _=>rfl⟩⟩
   ·exact⟨false,qGw hend (dt h1) (df h2),⟨fun h=>(by cases h),fun h=>(h2 h.2.2.2).elim⟩⟩
  ·exact⟨false,qHk hend (df h1),⟨fun h=>(by cases h),fun h=>(h1 (hi.lt.2 ⟨h.2.1,h.2.2.1⟩)).elim⟩⟩
 ·simp only[Classical.not_forall,not_imp] at hb;obtain⟨p,hp,hlt⟩:=hb;exact⟨false,qGJ (step j hf (by omega) (qCH hp (qal (qan hp)) (dt (by omega)) (dt (by omega)))),⟨fun h=>(by cases h),fun h=>(hlt (h.1 j p hp)).elim⟩⟩
abbrev cfT (l:List Pt) (k:Nat):List (Nat×SV):=[(3,.mp 1),(9,.ls 0 l.length),(10,.pv (iV (l.length:Int))),(11,.pv (iV (k:Int)))]
abbrev cfH (l m:List Pt):List (Nat×Nat×SV):=[(1,0,.mrow (qaI (m))),(0,0,qak l)]
theorem qlp {l:List Pt} {k:Nat} {q:Pt} (h:q∈l.take k):∃ i,i<k∧l[i]?=some q:=by
 obtain⟨i,hi,rfl⟩:=List.getElem_of_mem h
 have hi':i<k∧i<l.length:=by simp at hi;omega
 exact⟨i,hi'.1,by rw[List.getElem_take];exact List.getElem?_eq_getElem hi'.2⟩
theorem qsk {l:List Pt} {i k:Nat} {q:Pt} (h:l[i]?=some q) (hik:i<k):q∈l.take k:=List.mem_of_getElem? (i:=i) (by rw[List.getElem?_take,if_pos hik];exact h)
theorem qAI {l:List Pt} (hn:l.length≤1000000):∃ b,FnL Tryz.prog 229 1 [.ls 0 l.length] [(0,0,qak l)] (.pv (.bool b)) 0 []∧(b=true↔(∀ p∈l,qby p.a p.b=true)∧Dis l):=by
 have step:∀ k,(∀ j,j<k→∀ p,l[j]?=some p→qby p.a p.b=true∧∀ q∈l.take j,¬ (q.a=p.a∧q.b=p.b))→∀ {e:Exit} {tm2:TmL} {hp2:HpL},k≤l.length→
  RunsL Tryz.prog 1 1 (qgx Tryz.prog 229 0) 29 2 (cfT l k) (cfH l (l.take k)) e tm2 hp2→RunsL Tryz.prog 1 1 (qgx Tryz.prog 229 0) 29 2 (cfT l 0) (cfH l []) e tm2 hp2:=by
  intro k hk e tm2 hp2 hkl r;refine RunsL.rounds (fun j=>cfT l j) (fun j=>cfH l (l.take j)) (N:=k) k 0 (Nat.zero_add _) (fun j _ hj r=>?_) r;obtain⟨p,hp⟩:=qah (l:=l) (k:=j) (by omega);obtain⟨h1,h2⟩:=hk j hj p hp;refine qwF hp (qal (qan hp)) (dt (by have:=qan hp;omega)) (h1▸qk2 p.a p.b) (qop h2) (qgZ h2) (qag (by omega)) ?_;rw[← qb0 hp];exact r
 rcases qa3 (fun j=>∀ p,l[j]?=some p→qby p.a p.b=true∧∀ q∈l.take j,¬ (q.a=p.a∧q.b=p.b)) l.length with h | ⟨j,hj,hb,hf⟩
 ·refine⟨true,qH5 (step l.length (fun j hj=>h j hj) (Nat.le_refl _) (qCv (df (by omega)))),⟨fun _=>⟨fun p hp=>?_,fun i k p q hik hp hq=>?_⟩,fun _=>rfl⟩⟩
  ·obtain⟨k,hk,rfl⟩:=List.getElem_of_mem hp;exact (h k hk _ (List.getElem?_eq_getElem hk)).1
  ·exact (h k (qan hq) q hq).2 p (qsk hp hik)
 ·simp only[Classical.not_forall,not_imp] at hb;obtain⟨p,hp,hnp⟩:=hb;by_cases hv:qby p.a p.b=true
  ·have:∃ q∈l.take j,q.a=p.a∧q.b=p.b:=Classical.byContradiction fun hno=>hnp ⟨hv,fun q hq e=>hno ⟨q,hq,e⟩⟩
   obtain⟨q,hq,he⟩:=this;refine⟨false,qAs (step j hf (by omega) (qDK hp (qal hj) (dt (by omega)) (hv▸qk2 p.a p.b) (qkN hq he))),⟨fun h=>(by cases h),fun h=>?_⟩⟩;obtain⟨i,hi,hq'⟩:=qlp hq;exact (h.2 i j q p hi hq' hp he).elim
  ·have hv':qby p.a p.b=false:=by simpa using hv
   exact⟨false,qAs (step j hf (by omega) (qA1 hp (qal hj) (dt (by omega)) (hv'▸qk2 p.a p.b))),⟨fun h=>(by cases h),fun h=>(hv (h.1 p (List.mem_of_getElem? hp))).elim⟩⟩
theorem qhH (x:Int) (l:List Pt):Fn 178 1 [qaU 0 x l] [(0,0,qak l)] (.pv (iV (qzs x l))) 0 []:=by
 by_cases h0:l.length≤200
 ·obtain⟨u,hu,hu2⟩:=qCT x (l:=l) (by omega);obtain⟨v,hv,hv2⟩:=qAI (l:=l) (by omega);cases u
  ·rw[qbH fun h=>by have:=hu2.2 ⟨Inc.of h.up h.lo,h.hi,h.nx.1,h.nx.2⟩;cases this];exact qwc (df (by omega)) hu
  ·cases v
   ·rw[qbH fun h=>by have:=hv2.2 ⟨h.ok,h.dis⟩;cases this];exact quK (df (by omega)) hu hv
   ·obtain⟨a1,a2,a3,a4⟩:=hu2.1 rfl;obtain⟨b1,b2⟩:=hv2.1 rfl;rw[qdt ⟨h0,b1,a1.up,a1.lo,a2,⟨a3,a4⟩,b2⟩];exact qAf (df (by omega)) hu hv
 ·rw[qbH fun h=>h0 h.len];exact qtI (dt (by omega))
end Go.Proofs.YtkckcgpmnipnaaaGreat

namespace Go.Proofs.YtkckcgpmnipnaaaGreat
set_option maxRecDepth 100000
open Go.RowKit
theorem qdP (a b:Int):Pure Tryz.prog 145 #[qae a b] (.bool (qby a b)):=by
 have no:∀ {P:Prop},¬ P→(qby a b=true→P)→qby a b=false:=fun h k=>by
  cases e:qby a b
  ·rfl
  ·exact (h (k e)).elim
 by_cases h1:0≤a
 ·by_cases h2:a≤65535
  ·by_cases h3:0≤b
   ·by_cases h4:b≤65535
    ·by_cases h5:a=b
     ·rw[no (P:=a≠b) (fun h=>h h5) (fun h=>(qbn.1 h).2.2.2.2)];exact qGd (dt h1) (dt h2) (dt h3) (dt h4) (by simpa using h5)
     ·rw[qbn.2 ⟨h1,h2,h3,h4,h5⟩];exact qGG (dt h1) (dt h2) (dt h3) (dt h4) (by simpa using h5)
    ·rw[no h4 (fun h=>(qbn.1 h).2.2.2.1)];exact qJP (dt h1) (dt h2) (dt h3) (df h4)
   ·rw[no h3 (fun h=>(qbn.1 h).2.2.1)];exact qJA (dt h1) (dt h2) (df (by omega))
  ·rw[no h2 (fun h=>(qbn.1 h).2.1)];exact qJG (dt h1) (df h2)
 ·rw[no h1 (fun h=>(qbn.1 h).1)];exact qJp (df (by omega))
abbrev qEX (k:Nat):List (Nat×SV):=[(1,.pp 1 0),(3,.pv (iV (k:Int)))]
abbrev qoq (k j:Nat):List (Nat×SV):=[(1,.pp 1 0),(3,.pv (iV (k:Int))),(4,.pp 2 0),(5,.pv (iV (j:Int)))]
abbrev qEy (x:Int) (l:List Pt):List (Nat×Nat×SV):=[(1,0,.pv (iV x)),(1,1,.ls 0 l.length),(0,0,qak l)]
abbrev qp6 (x:Int) (l:List Pt) (p:Pt):List (Nat×Nat×SV):=[(1,0,.pv (iV x)),(1,1,.ls 0 l.length),(2,0,.pv (iV p.id)),(2,1,.pv (iV p.a)),(2,2,.pv (iV p.b)),(0,0,qak l)]
theorem qo3 {p q:Pt} (h:¬ (q.a=p.a∧q.b=p.b)):(q.a==p.a&&(q.b==p.b&&true))=false:=by
 rw[Bool.and_true];cases e:(q.a==p.a&&q.b==p.b)
 ·rfl
 ·rw[Bool.and_eq_true,beq_iff_eq,beq_iff_eq] at e;exact (h e).elim
theorem qnF {p q:Pt} (h:q.a=p.a∧q.b=p.b):(q.a==p.a&&(q.b==p.b&&true))=true:=by rw[h.1,h.2];simp
theorem qll {x:Int} {l:List Pt} {p:Pt} {k:Nat} (hn:l.length≤1000000) (hkl:k≤l.length) {j:Nat} (hj:j≤k) (h:∀ i,i<j→∀ q,l[i]?=some q→¬ (q.a=p.a∧q.b=p.b)) {e:Exit} {tm2:TmL} {hp2:HpL}
 (r:Rl 1 1 121 1 78 3 (qoq k j) (qp6 x l p) e tm2 hp2):Rl 1 1 121 1 78 3 (qoq k 0) (qp6 x l p) e tm2 hp2:=by
 refine RunsL.rounds (fun i=>qoq k i) (fun _=>qp6 x l p) (N:=j) j 0 (Nat.zero_add _) (fun i _ hi r=>?_) r;obtain⟨q,hq⟩:=qah (l:=l) (k:=i) (by omega);exact qno hq (qal (qan hq)) (dt (by omega)) (qo3 (h i hi q hq)) (qag (by omega)) r
theorem qtT {x:Int} {l:List Pt} {p:Pt} {k:Nat} (hn:l.length≤1000000) (hkl:k≤l.length) (h:∀ i,i<k→∀ q,l[i]?=some q→¬ (q.a=p.a∧q.b=p.b)) :
 Rl 1 1 121 1 78 3 (qoq k 0) (qp6 x l p) (.exit 2) (qEX k) (qEy x l):=
 qll hn hkl (Nat.le_refl k) h (qtx (df (by omega)))
theorem qx0 {x:Int} {l:List Pt} {p:Pt} {k:Nat} (hn:l.length≤1000000) (hkl:k≤l.length) (h:¬ ∀ i,i<k→∀ q,l[i]?=some q→¬ (q.a=p.a∧q.b=p.b)) :
 Rl 1 1 121 1 78 3 (qoq k 0) (qp6 x l p) .ret [(2,.pv (iV 8))] []:=by
 rcases qa3 (fun i=>∀ q,l[i]?=some q→¬ (q.a=p.a∧q.b=p.b)) k with h1 | ⟨j,hj,hb,hf⟩
 ·exact (h h1).elim
 ·simp only[Classical.not_forall,Classical.not_not] at hb;obtain⟨q,hq,he⟩:=hb;exact qll hn hkl (by omega) hf (qtH hq (qal (qan hq)) (dt (by omega)) (qnF he))
def At8 (x:Int) (l:List Pt) (k:Nat):Prop:=∀ p,l[k]?=some p→qby p.a p.b=true∧0≤p.id∧p.id<x∧(∀ j q,k=j+1→l[j]?=some q→q.id<p.id)∧∀ i,i<k→∀ q,l[i]?=some q→¬ (q.a=p.a∧q.b=p.b)
theorem qpz (x:Int) (l:List Pt):FnL Tryz.prog 121 1 [qaU 0 x l] [(0,0,qak l)] (.pv (.int .i64 (qzs x l))) 0 []:=by
 by_cases h0:l.length≤200
 ·by_cases h1:0≤x
  ·by_cases h2:x≤1000000
   ·have step:∀ k,(∀ j,j<k→At8 x l j)→∀ {e:Exit} {tm2:TmL} {hp2:HpL},k≤l.length→
     RunsL Tryz.prog 1 1 (qgx Tryz.prog 121 0) 78 2 (qEX k) (qEy x l) e tm2 hp2→RunsL Tryz.prog 1 1 (qgx Tryz.prog 121 0) 78 2 (qEX 0) (qEy x l) e tm2 hp2:=by
     intro k hk e tm2 hp2 hkl r;refine RunsL.rounds (fun j=>qEX j) (fun _=>qEy x l) (N:=k) k 0 (Nat.zero_add _) (fun j _ hj r=>?_) r;obtain⟨p,hp⟩:=qah (l:=l) (k:=j) (by omega);obtain⟨a1,a2,a3,a4,a5⟩:=hk j hj p hp;have hjl:=qan hp
     cases j with
     | zero=>exact qFI (hk:=hp) (hin:=qal hjl) (hlt:=dt (by omega)) (hv:=a1▸qdP p.a p.b) (h1:=df (by omega)) (h2:=df (by omega)) (hz:=df (by omega)) (r1:=qtT (by omega) (by omega) a5) (hs:=qag (by omega)) r
     | succ i=>
      obtain⟨q,hq⟩:=qah (l:=l) (k:=i) (by omega);exact qG8 (hk:=hp) (hin:=qal hjl) (hlt:=dt (by omega)) (hv:=a1▸qdP p.a p.b) (h1:=df (by omega)) (h2:=df (by omega)) (hz:=dt (by omega)) (hq:=hq) (hin0:=qal (qan hq)) (hm:=qbV i (by omega)) (hg:=df (by have:=a4 i q rfl hq;omega)) (r1:=qtT (by omega) (by omega) a5) (hs:=qag (by omega)) r
    rcases qa3 (At8 x l) l.length with h | ⟨j,hj,hb,hf⟩
    ·have hv:V8 x l:=⟨h0,fun p hp=>by
      obtain⟨k,hk,rfl⟩:=List.getElem_of_mem hp
      exact (h k hk _ (List.getElem?_eq_getElem hk)).1,fun k p q hp hq=>(h (k+1) (qan hq) q hq).2.2.2.1 k p rfl hp,fun p hp=>by
      obtain⟨k,hk,rfl⟩:=List.getElem_of_mem hp
      exact (h k hk _ (List.getElem?_eq_getElem hk)).2.1,fun p hp=>by
      obtain⟨k,hk,rfl⟩:=List.getElem_of_mem hp
      exact (h k hk _ (List.getElem?_eq_getElem hk)).2.2.1,⟨h1,h2⟩,fun i k p q hik hp hq=>(h k (qan hq) q hq).2.2.2.2 i hik p hp⟩
     rw[qdt hv];exact qC8 (df (by omega)) (df (by omega)) (df (by omega)) (step l.length h (Nat.le_refl _) (qwo (df (by omega))))
    ·rw[qbH fun hv=>hb fun p hp=>⟨hv.ok p (List.mem_of_getElem? hp),hv.lo p (List.mem_of_getElem? hp),hv.hi p (List.mem_of_getElem? hp),fun i q e hq=>by subst e;exact hv.up i q p hq hp,fun i hi q hq=>hv.dis i j q p hi hq hp⟩];refine qxE (df (by omega)) (df (by omega)) (df (by omega)) (step j hf (by omega) ?_);obtain⟨p,hp⟩:=qah hj;by_cases c1:qby p.a p.b=true
     ·by_cases c2:0≤p.id
      ·by_cases c3:p.id<x
       ·cases j with
        | zero=>exact (hb fun p' hp'=>by rw[hp] at hp';cases hp';exact⟨c1,c2,c3,fun i q e=>by omega,fun i hi=>by omega⟩).elim
        | succ i=>
         obtain⟨q,hq⟩:=qah (l:=l) (k:=i) (by omega);by_cases c4:q.id<p.id
         ·refine qnX hp (qal hj) (dt (by omega)) (c1▸qdP p.a p.b) (df (by omega)) (df (by omega)) (dt (by omega)) hq (qal (qan hq)) (qbV i (by omega)) (df (by omega)) (qx0 (by omega) (by omega) fun hno=>hb fun p' hp'=>?_);rw[hp] at hp';cases hp';exact⟨c1,c2,c3,fun i' q' e hq'=>by cases e;rw[hq] at hq';cases hq';exact c4,hno⟩
         ·exact qIh hp (qal hj) (dt (by omega)) (c1▸qdP p.a p.b) (df (by omega)) (df (by omega)) (dt (by omega)) hq (qal (qan hq)) (qbV i (by omega)) (dt (by omega))
       ·exact qFj hp (qal hj) (dt (by omega)) (c1▸qdP p.a p.b) (df (by omega)) (dt (by omega))
      ·exact qH4 hp (qal hj) (dt (by omega)) (c1▸qdP p.a p.b) (dt (by omega))
     ·have c1':qby p.a p.b=false:=by simpa using c1
      exact qFg hp (qal hj) (dt (by omega)) (c1'▸qdP p.a p.b)
   ·rw[qbH fun h=>h2 h.nx.2];exact quS (df (by omega)) (df (by omega)) (dt (by omega))
  ·rw[qbH fun h=>h1 h.nx.1];exact qvh (df (by omega)) (dt (by omega))
 ·rw[qbH fun h=>h0 h.len];exact qth (dt (by omega))
theorem qiH (x:Int) {l:List Pt} (hn:l.length≤1000000):Fn 71 1 [qaU 0 x l] [(0,0,qak l)] (.ag [.pv (iV x),.ls 1 l.length]) 1 [(1,0,qak l)]:=qsV (by omega)
theorem qrw (x:Int) {l:List Pt} (hn:l.length≤1000000):Fn 79 2 [qaU 0 x l,qaU 1 x l] [(0,0,qak l),(1,0,qak l)] (.pv (.bool true)) 0 []:=
 qxp (by simp) (by simp) (RunsL.rounds (fun k=>[(2,.pp 2 0),(3,.pp 3 0),(5,.pv (iV (k:Int)))]) (fun _=>[(2,0,.pv (iV x)),(2,1,.ls 0 l.length),(3,0,.pv (iV x)),(3,1,.ls 1 l.length),(0,0,qak l),(1,0,qak l)]) l.length 0 (Nat.zero_add _)
  (fun k _ hk r=>by
   obtain⟨p,hp⟩:=qah hk
   exact qsi hp (qal hk) hp (qal hk) (dt (by omega)) (by simp) (qag (by omega)) r)
  (qxP (df (by omega))))
theorem qt4 {l:List Pt} (hu:Up l) (n:Int):(∃ (k:Nat) (p:Pt),l[k]?=some p∧p.id=n)∨((∀ p∈l,p.id≠n)∧∃ k,k≤l.length∧(∀ (t:Nat) (p:Pt),t<k→l[t]?=some p→p.id<n)∧∀ (t:Nat) (p:Pt),k≤t→l[t]?=some p→n<p.id):=by
 by_cases h:∃ (k:Nat) (p:Pt),l[k]?=some p∧p.id=n
 ·exact Or.inl h
 ·refine Or.inr ⟨fun p hp e=>?_,?_⟩
  ·obtain⟨k,hk,rfl⟩:=List.getElem_of_mem hp;exact h ⟨k,_,List.getElem?_eq_getElem hk,e⟩
  ·rcases qa3 (fun k=>∀ p,l[k]?=some p→p.id<n) l.length with hh | ⟨j,hj,hn,hb⟩
   ·exact⟨l.length,Nat.le_refl _,fun t p ht hp=>hh t ht p hp,fun t p ht hp=>by have:=qan hp;omega⟩
   ·refine⟨j,by omega,fun t p ht hp=>hb t ht p hp,fun t p ht hp=>?_⟩;simp only[Classical.not_forall] at hn;obtain⟨q,hq,hlt⟩:=hn
    have hne:q.id≠n:=fun e=>h ⟨j,q,hq,e⟩
    rcases Nat.lt_or_ge j t with h' | h'
    ·have:=hu.mono h' hq hp;omega
    ·have:t=j:=by omega
     subst this;rw[hq] at hp;cases hp;omega
theorem qtS {l:List Pt} (hu:Up l) {i j:Nat} {p q:Pt} (hp:l[i]?=some p) (hq:l[j]?=some q) (h:p.id=q.id):i=j∧p=q:=by
 rcases Nat.lt_trichotomy i j with e | e | e
 ·have:=hu.mono e hp hq;omega
 ·subst e;rw[hp] at hq;cases hq;exact⟨rfl,rfl⟩
 ·have:=hu.mono e hq hp;omega
theorem qec {l:List Pt} (hu:Up l) {k:Nat} {p:Pt} (hk:l[k]?=some p):(l.filter fun q=>decide (q.id≠p.id))=l.take k++l.drop (k+1):=by
 obtain⟨hkl,e⟩:=List.getElem?_eq_some_iff.1 hk
 have h1:l=l.take k++p::l.drop (k+1):=by rw[← e];simp
 have h2:∀ q∈l.take k,decide (q.id≠p.id)=true:=fun q hq=>by
  obtain⟨i,hi,hq'⟩:=qlp hq;have:=hu.mono hi hq' hk;exact dt (by omega)
 have h3:∀ q∈l.drop (k+1),decide (q.id≠p.id)=true:=fun q hq=>by
  obtain⟨i,hi,rfl⟩:=List.getElem_of_mem hq
  have hq':l[k+1+i]?=some (l.drop (k+1))[i]:=by rw[← List.getElem?_drop];exact List.getElem?_eq_getElem hi
  have:=hu.mono (show k<k+1+i by omega) hk hq';exact dt (by omega)
 conv=>lhs;rw[h1]
 rw[List.filter_append,List.filter_cons_of_neg (by simp),List.filter_eq_self.2 h2,List.filter_eq_self.2 h3]
noncomputable def qd1 (l:List Pt) (a b:Int):Bool:=open Classical in decide (∃ p∈l,p.a=a∧p.b=b)
theorem qfl {l:List Pt} {a b:Int}:qd1 l a b=true↔∃ p∈l,p.a=a∧p.b=b:=by unfold qd1;exact decide_eq_true_iff
theorem qkl {l:List Pt} {a b:Int} (h:∀ (k:Nat) (p:Pt),l[k]?=some p→¬ (p.a=a∧p.b=b)):qd1 l a b=false:=by
 cases e:qd1 l a b
 ·rfl
 ·obtain⟨p,hp,he⟩:=qfl.1 e;obtain⟨k,hk,rfl⟩:=List.getElem_of_mem hp;exact (h k _ (List.getElem?_eq_getElem hk) he).elim
theorem qpq (x:Int) {l:List Pt} (hn:l.length≤1000000) (a b:Int):Fn 126 1 [qaU 0 x l,.pv (qae a b)] [(0,0,qak l)] (.pv (.bool (qd1 l a b))) 0 []:=by
 have step:∀ k,(∀ j,j<k→∀ p,l[j]?=some p→¬ (p.a=a∧p.b=b))→∀ {e:Exit} {tm2:TmL} {hp2:HpL},k≤l.length→
  Rl 1 1 126 0 21 3 [(2,.pp 1 0),(3,.pp 2 0),(5,.pv (iV (k:Int)))] [(1,0,.pv (iV x)),(1,1,.ls 0 l.length),(2,0,.pv (iV a)),(2,1,.pv (iV b)),(0,0,qak l)] e tm2 hp2→
  Rl 1 1 126 0 21 3 [(2,.pp 1 0),(3,.pp 2 0),(5,.pv (iV ((0:Nat):Int)))] [(1,0,.pv (iV x)),(1,1,.ls 0 l.length),(2,0,.pv (iV a)),(2,1,.pv (iV b)),(0,0,qak l)] e tm2 hp2:=by
  intro k hk e tm2 hp2 hkl r;refine RunsL.rounds (fun j=>[(2,.pp 1 0),(3,.pp 2 0),(5,.pv (iV (j:Int)))]) (fun _=>[(1,0,.pv (iV x)),(1,1,.ls 0 l.length),(2,0,.pv (iV a)),(2,1,.pv (iV b)),(0,0,qak l)]) (N:=k) k 0 (Nat.zero_add _) (fun j _ hj r=>?_) r;obtain⟨p,hp⟩:=qah (l:=l) (k:=j) (by omega);exact qrp hp (qal (qan hp)) (dt (by have:=qan hp;omega)) (qo3 (p:=⟨0,a,b⟩) (hk j hj p hp)) (qag (by omega)) r
 rcases qa3 (fun j=>∀ p,l[j]?=some p→¬ (p.a=a∧p.b=b)) l.length with h | ⟨j,hj,hb,hf⟩
 ·rw[qkl fun k p hp=>h k (qan hp) p hp];exact qDm (step l.length h (Nat.le_refl _) (qzb (df (by omega))))
 ·simp only[Classical.not_forall,Classical.not_not] at hb;obtain⟨p,hp,he⟩:=hb;rw[qfl.2 ⟨p,List.mem_of_getElem? hp,he⟩];exact qu8 (step j hf (by omega) (qw0 hp (qal hj) (dt (by omega)) (qnF (p:=⟨0,a,b⟩) he)))
theorem quN (x:Int) {l:List Pt} (hn:l.length≤210) (n:Int):Fn 83 1 [qaU 0 x l,.pv (iV n)] [(0,0,qak l)] (.ag [.pv (iV x),.ls 1 (l.filter fun p=>decide (p.id≠n)).length]) 1 [(1,0,qak (l.filter fun p=>decide (p.id≠n)))]:=by
 refine qtD ?_
 have:=RunsL.rounds (P:=Tryz.prog) (lo:=1) (fr:=1) (c:=qgx Tryz.prog 83 0) (n:=36) (nb:=5) (fun k=>[(1,.pv (iV n)),(2,.pp 1 0),(4,.pp 2 0),(5,.pp 3 0),(6,.pv (iV (k:Int)))])
  (fun k=>[(1,0,.pv (iV x)),(1,1,.ls 0 l.length),(0,0,qak l),(3,0,.pv (iV x)),(3,1,.ls 4 ((l.take k).filter fun p=>decide (p.id≠n)).length),(4,0,qak ((l.take k).filter fun p=>decide (p.id≠n))),(2,0,.pv (iV 0)),(2,1,.pv (.slice none 0 0))])
  (e:=.exit 0) (tm2:=[(4,.pp 2 0),(5,.pp 3 0)]) (hp2:=[(1,0,.pv (iV x)),(1,1,.ls 0 l.length),(0,0,qak l),(3,0,.pv (iV x)),(3,1,.ls 4 (l.filter fun p=>decide (p.id≠n)).length),(4,0,qak (l.filter fun p=>decide (p.id≠n))),(2,0,.pv (iV 0)),(2,1,.pv (.slice none 0 0))])
  l.length 0 (Nat.zero_add _) (fun k _ hk r=>?_) (by rw[List.take_length];exact qwC (df (by omega)))
 ·simpa using this
 ·obtain⟨p,hp⟩:=qah hk;rw[qb0 hp,List.filter_append] at r;have hlen:((l.take k).filter fun p=>decide (p.id≠n)).length≤l.length:=Nat.le_trans (List.length_filter_le _ _) (by simp;omega);by_cases hne:p.id=n
  ·rw[List.filter_cons_of_neg (by simp[hne]),List.filter_nil,List.append_nil] at r;exact qqU hp (qal hk) (dt (by omega)) (by simp[hne]) (qag (by omega)) r
  ·rw[List.filter_cons_of_pos (by simp[hne]),List.filter_nil] at r;exact qrG hp (qal hk) (dt (by omega)) (by simp[hne]) (by omega) (qag (by omega)) r
end Go.Proofs.YtkckcgpmnipnaaaGreat
