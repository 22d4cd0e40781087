/-
  Joined: Cr, Fa, Fd, Fb, Fc, Fi, Fq. Conditions: none.
-/
import Derived.Test.YtgbmdijodlfcaaaW22
import Derived.Test.YtgbmdijodlfcaaaW21
import Derived.ProofKit
import Derived.OpenShut
import Derived.Lib.SmallJoins
import Derived.Deep.Slices
import Derived.Deep.Strs
import Derived.Deep.Fields
import Derived.Carry
namespace Go.Proofs.Ytgbmdijodlfcaaa
set_option maxRecDepth 100000
open Go.RowKit
def okP (n a b:Int):Bool:=decide (0≤n∧n≤65535∧-1048576≤a∧a≤1048576∧-1048576≤b∧b≤1048576)
theorem qbe {n a b:Int}:okP n a b=true↔0≤n∧n≤65535∧-1048576≤a∧a≤1048576∧-1048576≤b∧b≤1048576:=by simp[okP]
theorem dt {p:Prop} [Decidable p] (h:p):decide p=true:=by simp[h]
theorem df {p:Prop} [Decidable p] (h:¬ p):decide p=false:=by simp[h]
theorem qbc {n a b:Int} (h:okP n a b=true):Pure Try.prog 62 #[qad n a b] (iV 0):=by
 have h':=qbe.1 h
 exact qrD (df (by omega)) (df (by omega)) (dt (by omega)) (dt (by omega)) (dt (by omega)) (dt (by omega))
theorem qdB {n a b:Int} (h:okP n a b=true):Pure Try.prog 75 #[qad n a b] (iV 0):=by
 have h':=qbe.1 h
 exact qoZ (df (by omega)) (df (by omega)) (df (by omega)) (df (by omega)) (df (by omega)) (df (by omega))
theorem qgo {n a b:Int} (h:¬ okP n a b=true):Pure Try.prog 62 #[qad n a b] (iV 8):=by
 rw[qbe] at h
 by_cases h1:n<0
 ·exact qrI (dt h1)
 by_cases h2:n>65535
 ·exact qri (df h1) (dt h2)
 by_cases h3 : -1048576≤a
 ·by_cases h4:a≤1048576
  ·by_cases h5 : -1048576≤b
   ·exact qqF (df h1) (df h2) (dt h3) (dt h4) (dt h5) (df (by omega))
   ·exact qrf (df h1) (df h2) (dt h3) (dt h4) (df h5)
  ·exact qrE (df h1) (df h2) (dt h3) (df h4)
 ·exact qra (df h1) (df h2) (df h3)
theorem qeT {n a b:Int} (h:¬ okP n a b=true):Pure Try.prog 75 #[qad n a b] (iV 8):=by
 rw[qbe] at h
 by_cases h1:n<0
 ·exact qqG (dt h1)
 by_cases h2:n>65535
 ·exact qr0 (df h1) (dt h2)
 by_cases h3:a < -1048576
 ·exact qrk (df h1) (df h2) (dt h3)
 by_cases h4:a>1048576
 ·exact qrr (df h1) (df h2) (df h3) (dt h4)
 by_cases h5:b < -1048576
 ·exact qrx (df h1) (df h2) (df h3) (df h4) (dt h5)
 ·exact qrm (df h1) (df h2) (df h3) (df h4) (df h5) (dt (by omega))
def qbT (P Q pb qb pi qi:Int):Bool:=decide (P>Q∨P=Q∧(pb>qb∨pb=qb∧pi<qi))
theorem qek {P Q pb qb pi qi:Int} (h:P>Q∨P=Q∧(pb>qb∨pb=qb∧pi<qi)):qbT P Q pb qb pi qi=true:=dt h
theorem qeN {P Q pb qb pi qi:Int} (h:¬ (P>Q∨P=Q∧(pb>qb∨pb=qb∧pi<qi))):qbT P Q pb qb pi qi=false:=df h
theorem qhm {pi pa pb qi qa qb:Int} (hp:okP pi pa pb=true) (hq:okP qi qa qb=true) (hb:pb≠qb) :
 ∃ m n,okB m n=true∧I64 m∧I64 n∧m*(pb-qb)=(qa-pa)*n∧Pure Try.prog 89 #[qad pi pa pb,qad qi qa qb] (qac m n):=by
 have hp':=qbe.1 hp
 have hq':=qbe.1 hq
 obtain⟨N,D,E,hr,hm⟩:=qkq (a:=qa-pa) (b:=pb-qb) (by unfold I64;omega) (by unfold I64;omega) (by omega)
 have key:E=0∧okB N D=true∧I64 N∧I64 D∧N*(pb-qb)=(qa-pa)*D:=by
  by_cases hs:0<pb-qb
  ·exact hr.fits hs (by omega) (by omega) (by omega)
  ·have h2:=hr.congr (p':=-(qa-pa)) (q':=-(pb-qb)) (by omega) (by omega) (by rw[Int.mul_neg,Int.neg_mul])
   obtain⟨e1,e2,e3,e4,e5⟩:=h2.fits (by omega) (by omega) (by omega) (by omega)
   refine⟨e1,e2,e3,e4,?_⟩
   rw[Int.mul_neg,Int.neg_mul] at e5
   omega
 obtain⟨rfl,k1,k2,k3,k4⟩:=key
 exact⟨N,D,k1,k2,k3,k4,qft (by rw[qbC (by omega) (by omega)]) (by rw[qbC (by omega) (by omega)]) hm⟩
theorem qg2 {pi pa pb qi qa qb n d:Int} (hn:I64 n) (hd:I64 d) (hp:okP pi pa pb=true) (hq:okP qi qa qb=true) (ht:okB n d=true) (hij:pi≠qi) :
 Pure Try.prog 69 #[qad pi pa pb,qad qi qa qb,qac n d] (.tuple #[.bool (qbT (pa*d+pb*n) (qa*d+qb*n) pb qb pi qi),iV 0]):=by
 have c1:=qbc hp
 have c2:=qbc hq
 have c3:=qdh hn hd ht
 have c4:Pure Try.prog 82 #[qad pi pa pb,qad qi qa qb] (iV 0):=qrM (by simp[hij])
 have d0:0<d:=by have:=qey ht;omega
 by_cases hb:pb=qb
 ·subst hb
  by_cases ha:pa=qa
  ·subst ha
   by_cases hi:pi<qi
   ·rw[qek (Or.inr ⟨rfl,Or.inr ⟨rfl,hi⟩⟩)]
    exact qkZ c1 c2 c3 c4 (by simp) (dt hi)
   ·rw[qeN (by omega)]
    exact qki c1 c2 c3 c4 (by simp) (df hi)
  ·have e:pa*d-qa*d=(pa-qa)*d:=(Int.sub_mul _ _ _).symm
   by_cases hg:pa>qa
   ·have:=Int.mul_pos (show 0<pa-qa by omega) d0
    rw[qek (Or.inl (by omega))]
    exact qku c1 c2 c3 c4 (by simp[ha]) (by simp) (dt hg)
   ·have:=Int.mul_neg_of_neg_of_pos (show pa-qa<0 by omega) d0
    rw[qeN (by omega)]
    exact qkV c1 c2 c3 c4 (by simp[ha]) (by simp) (df hg)
 ·obtain⟨m,k,h1,h2,h3,h4,h5⟩:=qhm hp hq hb
  have cc:=qo0 hn hd h2 h3 ht h1
  have k0:0<k:=by have:=qey h1;omega
  have key:(pa*d+pb*n-(qa*d+qb*n))*k=(pb-qb)*(n*k-m*d):=by
   have e1:(pb-qb)*(m*d)=(qa-pa)*k*d:=by rw[← h4,← Int.mul_assoc,Int.mul_comm (pb-qb) m]
   rw[Int.mul_sub,e1,Int.sub_mul,Int.add_mul,Int.add_mul,Int.sub_mul,Int.sub_mul,Int.sub_mul,← Int.mul_assoc,← Int.mul_assoc,Int.mul_right_comm qa k d,Int.mul_right_comm pa k d]
   omega
  have hs:(0≤n*k-m*d↔(n*k-m*d).sign≥0):=by
   rcases Int.lt_trichotomy (n*k-m*d) 0 with h | h | h
   ·rw[Int.sign_eq_neg_one_of_neg h];omega
   ·rw[h];decide
   ·rw[Int.sign_eq_one_of_pos h];omega
  generalize n*k-m*d=X at *
  generalize hP:pa*d+pb*n=P at *
  generalize hQ:qa*d+qb*n=Q at *
  by_cases hg:pb>qb
  ·by_cases hx:0≤X
   ·have:=Int.mul_nonneg (show 0≤pb-qb by omega) hx
    rw[qek (by
     rcases Int.lt_or_le P Q with h | h
     ·have:=Int.mul_neg_of_neg_of_pos (show P-Q<0 by omega) k0;omega
     ·rcases Int.lt_or_eq_of_le h with h | h
      ·exact Or.inl h
      ·exact Or.inr ⟨h.symm,Or.inl hg⟩)]
    exact qjT c1 c2 c3 c4 (by simp[hb]) (by simp[hb]) h5 cc (dt (hs.1 hx)) (dt hg)
   ·have:=Int.mul_neg_of_pos_of_neg (show 0<pb-qb by omega) (show X<0 by omega)
    rw[qeN (by
     intro h
     have hle:0≤P-Q:=by omega
     have:=Int.mul_nonneg hle (Int.le_of_lt k0)
     omega)]
    exact qi0 c1 c2 c3 c4 (by simp[hb]) (by simp[hb]) h5 cc (df (fun h=>hx (hs.2 h))) (dt hg)
  ·by_cases hx:0≤X
   ·have:=Int.mul_nonneg (show 0≤qb-pb by omega) hx
    have e:(pb-qb)*X = -((qb-pb)*X):=by rw[← Int.neg_mul];congr 1;omega
    rw[qeN (by
     intro h
     have hlt:0<P-Q:=by omega
     have:=Int.mul_pos hlt k0
     omega)]
    exact qiE c1 c2 c3 c4 (by simp[hb]) (by simp[hb]) h5 cc (dt (hs.1 hx)) (df hg)
   ·have:=Int.mul_pos_of_neg_of_neg (show pb-qb<0 by omega) (show X<0 by omega)
    rw[qek (by
     left
     rcases Int.lt_or_le Q P with h | h
     ·exact h
     ·have:(P-Q)*k≤0:=by
       have:=Int.mul_nonneg (show 0≤Q-P by omega) (Int.le_of_lt k0)
       have e:(P-Q)*k = -((Q-P)*k):=by rw[← Int.neg_mul];congr 1;omega
       omega
      omega)]
    exact qiI c1 c2 c3 c4 (by simp[hb]) (by simp[hb]) h5 cc (df (fun h=>hx (hs.2 h))) (df hg)
end Go.Proofs.Ytgbmdijodlfcaaa

namespace Go.Proofs.Ytgbmdijodlfcaaa
set_option maxRecDepth 100000
open Go.RowKit
structure Pt where
 id:Int
 a:Int
 b:Int
abbrev ptV (p:Pt):Value:=qad p.id p.a p.b
def qdM:List Pt→List Value
 | []=>[]
 | p::r=>iV p.id::iV p.a::iV p.b::qdM r
theorem qcp:∀ (l:List Pt),(qdM l).length=l.length*3
 | []=>rfl
 | p::r=>by simp[qdM,qcp r];omega
theorem qc7:∀ {l:List Pt} {k:Nat} {p:Pt},l[k]?=some p→(qdM l)[k*3]?=some (iV p.id)∧(qdM l)[k*3+1]?=some (iV p.a)∧(qdM l)[k*3+2]?=some (iV p.b)
 | [],k,p,h=>by simp at h
 | q::r,0,p,h=>by simp at h;subst h;exact⟨rfl,rfl,rfl⟩
 | q::r,k+1,p,h=>by
  have:=qc7 (l:=r) (k:=k) (p:=p) (by simpa using h)
  rw[show (k+1)*3=k*3+1+1+1 by omega]
  exact this
theorem qdP {l:List Pt} {k:Nat} {p:Pt} (h:l[k]?=some p):qix (qdM l) (0*3+k*3) [iV p.id,iV p.a,iV p.b]:=by
 obtain⟨h1,h2,h3⟩:=qc7 h
 intro j v hj
 rw[show 0*3+k*3+j=k*3+j by omega]
 match j,hj with
 | 0,hj=>cases hj;exact h1
 | 1,hj=>cases hj;exact h2
 | 2,hj=>cases hj;exact h3
 | j+3,hj=>simp at hj
theorem qc5 {l:List Pt} {k:Nat} {p:Pt} (h:l[k]?=some p):qix (qdM l) (0*3+k*3) [iV p.id]:=by
 intro j v hj
 rw[show 0*3+k*3+j=k*3+j by omega]
 match j,hj with
 | 0,hj=>cases hj;exact (qc7 h).1
 | j+1,hj=>simp at hj
theorem RunsL.rounds {P:Program} {lo fr:Nat} {c:Code} {n nb:Nat} (tm:Nat→List (Nat×SV)) (hp:Nat→List (Nat×Nat×SV)) {e:Exit} {tm2:TmL} {hp2:HpL} {N:Nat} :
 ∀ (d i:Nat),i+d=N→(∀ j,i≤j→j<N→RunsL P lo fr c n nb (tm (j+1)) (hp (j+1)) e tm2 hp2→RunsL P lo fr c n nb (tm j) (hp j) e tm2 hp2)→RunsL P lo fr c n nb (tm N) (hp N) e tm2 hp2→RunsL P lo fr c n nb (tm i) (hp i) e tm2 hp2
 | 0,i,h,_,last=>by
  have:i=N:=by omega
  subst this;exact last
 | d+1,i,h,step,last=>step i (Nat.le_refl i) (by omega) (RunsL.rounds tm hp d (i+1) (by omega) (fun j h1 h2=>step j (by omega) h2) last)
abbrev qaf (l:List Pt):SV:=.row 68 3 l.length (qdM l)
abbrev qay (b:Nat) (l:List Pt):SV:=.ag [.ls b l.length]
theorem qar {k:Nat} (h:k≤1000000):iV (IntKind.i64.wrap ((k:Int)+1))=iV ((k+1:Nat):Int):=by rw[qbC (by omega) (by omega)];rfl
theorem qoe {l:List Pt} (h1:decide ((l.length:Int)>16)=true) (h2:decide ((l.length:Int)<64)=true):Fn 19 1 [qay 0 l] [(0,0,qaf l)] (.pv (.bool true)) 0 []:=
 qbX 200 [] [.t true,.t true] tI (Ai h1 (Ai h2 tI)) (by kernel_rfl)
theorem qm6 {l:List Pt} (h1:decide ((l.length:Int)>16)=false) (h2:decide ((l.length:Int)>70)=false):Fn 19 1 [qay 0 l] [(0,0,qaf l)] (.pv (.bool false)) 0 []:=
 qbX 200 [] [.t false,.t false] tI (Ai h1 (Ai h2 tI)) (by kernel_rfl)
theorem qkU {l:List Pt} (h1:decide ((l.length:Int)>16)=true) (h2:decide ((l.length:Int)<64)=false) (h3:decide ((l.length:Int)>70)=true):Fn 19 1 [qay 0 l] [(0,0,qaf l)] (.pv (.bool true)) 0 []:=
 qbX 200 [] [.t true,.t false,.t true] tI (Ai h1 (Ai h2 (Ai h3 tI))) (by kernel_rfl)
theorem qlx {l:List Pt} (h1:decide ((l.length:Int)>16)=true) (h2:decide ((l.length:Int)<64)=false) (h3:decide ((l.length:Int)>70)=false):Fn 19 1 [qay 0 l] [(0,0,qaf l)] (.pv (.bool false)) 0 []:=
 qbX 200 [] [.t true,.t false,.t false] tI (Ai h1 (Ai h2 (Ai h3 tI))) (by kernel_rfl)
theorem qnS (x:Int):(x==x)=true:=by simp
def qsn (l:List Int):List Value:=l.map fun x=>iV x
end Go.Proofs.Ytgbmdijodlfcaaa

namespace Go.Proofs.Ytgbmdijodlfcaaa
set_option maxRecDepth 100000
open Go.RowKit
theorem qip {l:List Pt} {k:Nat} {p:Pt} {id:Int} (hk:l[k]?=some p) (hin:0≤(k:Int)∧(k:Int)<(l.length:Int)) (hlt:decide ((k:Int)<(l.length:Int))=true) (he:(p.id==id)=false) (hs:iV (IntKind.i64.wrap ((k:Int)+1))=iV (((k+1:Nat):Int))) {e:Exit} {tm2:TmL} {hp2:HpL}
 (r:Rl 1 1 58 0 22 2 ([(1,.pv (iV id)),(2,.pp 1 0),(5,.pv (iV ((k+1:Nat):Int)))]) ([(1,0,.ls 0 l.length),(0,0,qaf l)]) e tm2 hp2):Rl 1 1 58 0 22 2 ([(1,.pv (iV id)),(2,.pp 1 0),(5,.pv (iV (k:Int)))]) ([(1,0,.ls 0 l.length),(0,0,qaf l)]) e tm2 hp2:=
 RunsL.next [] 300 [.t true,.r (iV p.id),.t false,Re hs]
  (Ro (Ai hlt (Ai hin (Ai (qc5 hk) (Ai he (Ai hs tI)))))) r
theorem qpq {l:List Pt} {k:Nat} {p:Pt} {id:Int} (hk:l[k]?=some p) (hin:0≤(k:Int)∧(k:Int)<(l.length:Int)) (hlt:decide ((k:Int)<(l.length:Int))=true) (he:(p.id==id)=true):Rl 1 1 58 0 22 2 ([(1,.pv (iV id)),(2,.pp 1 0),(5,.pv (iV (k:Int)))]) ([(1,0,.ls 0 l.length),(0,0,qaf l)]) (.ret) ([(4,.pv (iV (k:Int)))]) ([]):=
 RunsL.stop [] 300 [.t true,.r (iV p.id),.t true] (fun h=>by cases h)
  (Ro (Ai hlt (Ai hin (Ai (qc5 hk) (Ai he tI)))))
theorem qpL {l:List Pt} {k:Nat} {id:Int} (hge:decide ((k:Int)<(l.length:Int))=false):Rl 1 1 58 0 22 2 ([(1,.pv (iV id)),(2,.pp 1 0),(5,.pv (iV (k:Int)))]) ([(1,0,.ls 0 l.length),(0,0,qaf l)]) (.exit 0) ([]) ([]):=
 RunsL.stop [] 300 [.t false] (fun h=>by cases h)
  (Ro (Ai hge tI))
theorem qrK {l:List Pt} {id:Int} (r0:Rl 1 1 58 0 22 2 ([(1,.pv (iV id)),(2,.pp 1 0),(5,.pv (iV ((0:Nat):Int)))]) ([(1,0,.ls 0 l.length),(0,0,qaf l)]) (.exit 0) ([]) ([])) :
 Fn 58 1 [qay 0 l,.pv (iV (id))] [(0,0,qaf l)] (.pv (iV (-1))) 0 []:=
 Fz [] [Lf r0]
  tI (Lo r0 [] tI)
theorem qoz {l:List Pt} {k:Nat} {id:Int} (r0:Rl 1 1 58 0 22 2 ([(1,.pv (iV id)),(2,.pp 1 0),(5,.pv (iV ((0:Nat):Int)))]) ([(1,0,.ls 0 l.length),(0,0,qaf l)]) (.ret) ([(4,.pv (iV (k:Int)))]) ([])) :
 Fn 58 1 [qay 0 l,.pv (iV (id))] [(0,0,qaf l)] (.pv (iV (k:Int))) 0 []:=
 Fz [] [Lf r0]
  tI (Lo r0 [] tI)
theorem qnP {l:List Pt} {tn td:Int} {e:Int} (hc:Fn 35 1 [qay 0 l] [(0,0,qaf l)] (.pv (iV (e))) 0 []) (he:(e !=0)=true) :
 Fn 59 1 [qay 0 l,.pv (qac tn td)] [(0,0,qaf l)] (.pv (iV (e))) 0 []:=
 Fz [] [Cf hc [0],.t true]
  tI (Co hc [0] 3 (Ai he tI))
theorem qmh {l:List Pt} {tn td:Int} {e:Int} (hc:Fn 35 1 [qay 0 l] [(0,0,qaf l)] (.pv (iV (0))) 0 []) (ht:Pure Try.prog 36 #[qac tn td] (iV (e))) :
 Fn 59 1 [qay 0 l,.pv (qac tn td)] [(0,0,qaf l)] (.pv (iV (e))) 0 []:=
 Fz [] [Cf hc [0],.k,Rf ht]
  tI (Co hc [0] 3 (Ai ht tI))
theorem qnq {l:List Pt} {tn td:Int} {e:Int} (hc:Fn 56 1 [qay 0 l] [(0,0,qaf l)] (.pv (iV (e))) 0 []) (he:(e !=0)=true) :
 Fn 29 1 [qay 0 l,.pv (qac tn td)] [(0,0,qaf l)] (.pv (iV (e))) 0 []:=
 Fz [] [Cf hc [0],.t true]
  tI (Co hc [0] 3 (Ai he tI))
theorem qlX {l:List Pt} {tn td:Int} {e:Int} (hc:Fn 56 1 [qay 0 l] [(0,0,qaf l)] (.pv (iV (0))) 0 []) (ht:Pure Try.prog 57 #[qac tn td] (iV (e))) :
 Fn 29 1 [qay 0 l,.pv (qac tn td)] [(0,0,qaf l)] (.pv (iV (e))) 0 []:=
 Fz [] [Cf hc [0],.k,Rf ht]
  tI (Co hc [0] 3 (Ai ht tI))
end Go.Proofs.Ytgbmdijodlfcaaa

namespace Go.Proofs.Ytgbmdijodlfcaaa
set_option maxRecDepth 100000
open Go.RowKit
theorem qgA {l:List Pt} {k:Nat} {p:Pt} (hk:l[k]?=some p) (hin:0≤(k:Int)∧(k:Int)<(l.length:Int)) (hlt:decide ((k:Int)<(l.length:Int))=true) (hc:Pure Try.prog 75 #[qad p.id p.a p.b] (iV (0))) (hs:iV (IntKind.i64.wrap ((k:Int)+1))=iV (((k+1:Nat):Int))) {e:Exit} {tm2:TmL} {hp2:HpL}
 (r:Rl 1 1 56 0 44 2 ([(1,.pp 1 0),(3,.pv (iV ((k+1:Nat):Int)))]) ([(1,0,.ls 0 l.length),(0,0,qaf l)]) e tm2 hp2):Rl 1 1 56 0 44 2 ([(1,.pp 1 0),(3,.pv (iV (k:Int)))]) ([(1,0,.ls 0 l.length),(0,0,qaf l)]) e tm2 hp2:=
 RunsL.next [] 300 [.t true,.r (ptV p),Rf hc,.k,Re hs]
  (Ro (Ai hlt (Ai hin (Ai (qdP hk) (Ai hc (Ai hs tI)))))) r
theorem qmy {l:List Pt} {k:Nat} {p:Pt} (hk:l[k]?=some p) (hin:0≤(k:Int)∧(k:Int)<(l.length:Int)) (hlt:decide ((k:Int)<(l.length:Int))=true) (hc:Pure Try.prog 75 #[qad p.id p.a p.b] (iV (8))):Rl 1 1 56 0 44 2 ([(1,.pp 1 0),(3,.pv (iV (k:Int)))]) ([(1,0,.ls 0 l.length),(0,0,qaf l)]) (.ret) ([(2,.pv (iV 8))]) ([]):=
 RunsL.stop [] 300 [.t true,.r (ptV p),Rf hc,.k] (fun h=>by cases h)
  (Ro (Ai hlt (Ai hin (Ai (qdP hk) (Ai hc tI)))))
theorem qnT {l:List Pt} {k:Nat} (hge:decide ((k:Int)<(l.length:Int))=false):Rl 1 1 56 0 44 2 ([(1,.pp 1 0),(3,.pv (iV (k:Int)))]) ([(1,0,.ls 0 l.length),(0,0,qaf l)]) (.exit 0) ([(1,.pp 1 0)]) ([(1,0,.ls 0 l.length),(0,0,qaf l)]):=
 RunsL.stop [] 300 [.t false] (fun h=>by cases h)
  (Ro (Ai hge tI))
theorem qgV {l:List Pt} {k:Nat} {p q:Pt} (hq:l[k]?=some q) (hk:l[k+1]?=some p) (hi0:0≤(k:Int)∧(k:Int)<(l.length:Int)) (hi1:0≤((k+1:Nat):Int)∧((k+1:Nat):Int)<(l.length:Int)) (hlt:decide (((k+1:Nat):Int)<(l.length:Int))=true) (hm:iV (IntKind.i64.wrap (((k+1:Nat):Int)-1))=iV (k:Int)) (hg:decide (q.id≥p.id)=false) (hs:iV (IntKind.i64.wrap (((k+1:Nat):Int)+1))=iV (((k+1+1:Nat):Int))) {e:Exit} {tm2:TmL} {hp2:HpL}
 (r:Rl 1 1 56 1 44 2 ([(1,.pp 1 0),(4,.pv (iV ((k+1+1:Nat):Int)))]) ([(1,0,.ls 0 l.length),(0,0,qaf l)]) e tm2 hp2):Rl 1 1 56 1 44 2 ([(1,.pp 1 0),(4,.pv (iV ((k+1:Nat):Int)))]) ([(1,0,.ls 0 l.length),(0,0,qaf l)]) e tm2 hp2:=
 RunsL.next [] 300 [.t true,.r (iV (k:Int)),.r (iV q.id),.r (iV p.id),.t false,.r (iV (((k+1+1:Nat):Int)))]
  (Ro (Ai hlt (Ai hm (Ai hi0 (Ai (qc5 hq) (Ai hi1 (Ai (qc5 hk) (Ai hg (Ai hs tI))))))))) r
theorem qn8 {l:List Pt} {k:Nat} {p q:Pt} (hq:l[k]?=some q) (hk:l[k+1]?=some p) (hi0:0≤(k:Int)∧(k:Int)<(l.length:Int)) (hi1:0≤((k+1:Nat):Int)∧((k+1:Nat):Int)<(l.length:Int)) (hlt:decide (((k+1:Nat):Int)<(l.length:Int))=true) (hm:iV (IntKind.i64.wrap (((k+1:Nat):Int)-1))=iV (k:Int)) (hg:decide (q.id≥p.id)=true):Rl 1 1 56 1 44 2 ([(1,.pp 1 0),(4,.pv (iV ((k+1:Nat):Int)))]) ([(1,0,.ls 0 l.length),(0,0,qaf l)]) (.ret) ([(2,.pv (iV 32))]) ([]):=
 RunsL.stop [] 300 [.t true,.r (iV (k:Int)),.r (iV q.id),.r (iV p.id),.t true] (fun h=>by cases h)
  (Ro (Ai hlt (Ai hm (Ai hi0 (Ai (qc5 hq) (Ai hi1 (Ai (qc5 hk) (Ai hg tI))))))))
theorem qjb {l:List Pt} {k:Nat} (hge:decide (((k:Nat):Int)<(l.length:Int))=false):Rl 1 1 56 1 44 2 ([(1,.pp 1 0),(4,.pv (iV ((k:Nat):Int)))]) ([(1,0,.ls 0 l.length),(0,0,qaf l)]) (.exit 2) ([]) ([]):=
 RunsL.stop [] 300 [.t false] (fun h=>by cases h)
  (Ro (Ai hge tI))
theorem qnE {l:List Pt} (h64:decide ((l.length:Int)>64)=true) :
 Fn 56 1 [qay 0 l] [(0,0,qaf l)] (.pv (iV 4)) 0 []:=
 Fz [] [.t true]
  tI (Ai h64 tI)
theorem qpB {l:List Pt} (h64:decide ((l.length:Int)>64)=false) (r0:Rl 1 1 56 0 44 2 ([(1,.pp 1 0),(3,.pv (iV (((0:Nat):Int):Int)))]) ([(1,0,.ls 0 l.length),(0,0,qaf l)]) (.ret) ([(2,.pv (iV 8))]) ([])) :
 Fn 56 1 [qay 0 l] [(0,0,qaf l)] (.pv (iV 8)) 0 []:=
 Fz [] [.t false,Lf r0]
  tI (Ai h64 (Lo r0 [] tI))
abbrev qr6 (l:List Pt):Prop:=Rl 1 1 56 0 44 2 ([(1,.pp 1 0),(3,.pv (iV (((0:Nat):Int):Int)))]) ([(1,0,.ls 0 l.length),(0,0,qaf l)]) (.exit 0) ([(1,.pp 1 0)]) ([(1,0,.ls 0 l.length),(0,0,qaf l)])
theorem qpU {l:List Pt} (h64:decide ((l.length:Int)>64)=false) (r0:qr6 l) (r1:Rl 1 1 56 1 44 2 ([(1,.pp 1 0),(4,.pv (iV (((0+1:Nat):Int):Int)))]) ([(1,0,.ls 0 l.length),(0,0,qaf l)]) (.ret) ([(2,.pv (iV 32))]) ([])) :
 Fn 56 1 [qay 0 l] [(0,0,qaf l)] (.pv (iV 32)) 0 []:=
 Fz [] [.t false,Lf r0,Lf r1]
  tI (Ai h64 (Lo r0 [] (Lo r1 [] tI)))
theorem qqB {l:List Pt} (h64:decide ((l.length:Int)>64)=false) (r0:qr6 l) (r1:Rl 1 1 56 1 44 2 ([(1,.pp 1 0),(4,.pv (iV (((0+1:Nat):Int):Int)))]) ([(1,0,.ls 0 l.length),(0,0,qaf l)]) (.exit 2) ([]) ([])) :
 Fn 56 1 [qay 0 l] [(0,0,qaf l)] (.pv (iV 0)) 0 []:=
 Fz [] [.t false,Lf r0,Lf r1]
  tI (Ai h64 (Lo r0 [] (Lo r1 [] tI)))
end Go.Proofs.Ytgbmdijodlfcaaa

namespace Go.Proofs.Ytgbmdijodlfcaaa
set_option maxRecDepth 100000
open Go.RowKit
abbrev qrl (k:Nat) (l:List Pt):TmL:=[(1,.pp 1 0),(12,.ls 0 l.length),(13,.pv (iV (l.length:Int))),(14,.pv (iV (k:Int)))]
theorem qgJ {l:List Pt} {k:Nat} {p:Pt} (hk:l[k]?=some p) (hin:0≤(k:Int)∧(k:Int)<(l.length:Int)) (hlt:decide ((k:Int)<(l.length:Int))=true) (hc:Pure Try.prog 62 #[qad p.id p.a p.b] (iV (0))) (hs:iV (IntKind.i64.wrap ((k:Int)+1))=iV (((k+1:Nat):Int))) {e:Exit} {tm2:TmL} {hp2:HpL}
 (r:Rl 1 1 35 0 45 2 ([(1,.pp 1 0),(12,.ls 0 l.length),(13,.pv (iV (l.length:Int))),(14,.pv (iV ((k+1:Nat):Int)))]) ([(1,0,.ls 0 l.length),(0,0,qaf l)]) e tm2 hp2):Rl 1 1 35 0 45 2 (qrl k l) ([(1,0,.ls 0 l.length),(0,0,qaf l)]) e tm2 hp2:=
 RunsL.next [] 300 [.t true,.r (ptV p),Rf hc,.k,Re hs]
  (Ro (Ai hlt (Ai hin (Ai (qdP hk) (Ai hc (Ai hs tI)))))) r
theorem qnv {l:List Pt} {k:Nat} {p:Pt} (hk:l[k]?=some p) (hin:0≤(k:Int)∧(k:Int)<(l.length:Int)) (hlt:decide ((k:Int)<(l.length:Int))=true) (hc:Pure Try.prog 62 #[qad p.id p.a p.b] (iV (8))):Rl 1 1 35 0 45 2 (qrl k l) ([(1,0,.ls 0 l.length),(0,0,qaf l)]) (.ret) ([(2,.pv (iV 8))]) ([]):=
 RunsL.stop [] 300 [.t true,.r (ptV p),Rf hc,.k] (fun h=>by cases h)
  (Ro (Ai hlt (Ai hin (Ai (qdP hk) (Ai hc tI)))))
theorem qmH {l:List Pt} {k:Nat} (hge:decide ((k:Int)<(l.length:Int))=false):Rl 1 1 35 0 45 2 (qrl k l) ([(1,0,.ls 0 l.length),(0,0,qaf l)]) (.exit 0) ([(1,.pp 1 0)]) ([(1,0,.ls 0 l.length),(0,0,qaf l)]):=
 RunsL.stop [] 300 [.t false] (fun h=>by cases h)
  (Ro (Ai hge tI))
theorem qg8 {l:List Pt} {k:Nat} {p q:Pt} (hq:l[k]?=some q) (hk:l[k+1]?=some p) (hi0:0≤(k:Int)∧(k:Int)<(l.length:Int)) (hi1:0≤((k+1:Nat):Int)∧((k+1:Nat):Int)<(l.length:Int)) (hlt:decide (((k+1:Nat):Int)<(l.length:Int))=true) (hm:iV (IntKind.i64.wrap (((k+1:Nat):Int)-1))=iV (k:Int)) (hg:decide (q.id≥p.id)=false) (hs:iV (IntKind.i64.wrap (((k+1:Nat):Int)+1))=iV (((k+1+1:Nat):Int))) {e:Exit} {tm2:TmL} {hp2:HpL}
 (r:Rl 1 1 35 1 45 2 ([(1,.pp 1 0),(6,.pv (iV ((k+1+1:Nat):Int)))]) ([(1,0,.ls 0 l.length),(0,0,qaf l)]) e tm2 hp2):Rl 1 1 35 1 45 2 ([(1,.pp 1 0),(6,.pv (iV ((k+1:Nat):Int)))]) ([(1,0,.ls 0 l.length),(0,0,qaf l)]) e tm2 hp2:=
 RunsL.next [] 300 [.t true,.r (iV (k:Int)),.r (iV q.id),.r (iV p.id),.t false,.r (iV (((k+1+1:Nat):Int)))]
  (Ro (Ai hlt (Ai hm (Ai hi0 (Ai (qc5 hq) (Ai hi1 (Ai (qc5 hk) (Ai hg (Ai hs tI))))))))) r
theorem qmL {l:List Pt} {k:Nat} {p q:Pt} (hq:l[k]?=some q) (hk:l[k+1]?=some p) (hi0:0≤(k:Int)∧(k:Int)<(l.length:Int)) (hi1:0≤((k+1:Nat):Int)∧((k+1:Nat):Int)<(l.length:Int)) (hlt:decide (((k+1:Nat):Int)<(l.length:Int))=true) (hm:iV (IntKind.i64.wrap (((k+1:Nat):Int)-1))=iV (k:Int)) (hg:decide (q.id≥p.id)=true):Rl 1 1 35 1 45 2 ([(1,.pp 1 0),(6,.pv (iV ((k+1:Nat):Int)))]) ([(1,0,.ls 0 l.length),(0,0,qaf l)]) (.ret) ([(2,.pv (iV 32))]) ([]):=
 RunsL.stop [] 300 [.t true,.r (iV (k:Int)),.r (iV q.id),.r (iV p.id),.t true] (fun h=>by cases h)
  (Ro (Ai hlt (Ai hm (Ai hi0 (Ai (qc5 hq) (Ai hi1 (Ai (qc5 hk) (Ai hg tI))))))))
theorem qjM {l:List Pt} {k:Nat} (hge:decide ((k:Int)<(l.length:Int))=false):Rl 1 1 35 1 45 2 ([(1,.pp 1 0),(6,.pv (iV ((k:Nat):Int)))]) ([(1,0,.ls 0 l.length),(0,0,qaf l)]) (.exit 2) ([]) ([]):=
 RunsL.stop [] 300 [.t false] (fun h=>by cases h)
  (Ro (Ai hge tI))
theorem qnh {l:List Pt} (h64:decide ((l.length:Int)>64)=true) :
 Fn 35 1 [qay 0 l] [(0,0,qaf l)] (.pv (iV (4))) 0 []:=
 Fz [] [.t true]
  tI (Ai h64 tI)
theorem qo4 {l:List Pt} (h64:decide ((l.length:Int)>64)=false) (r0:Rl 1 1 35 0 45 2 ([(1,.pp 1 0),(12,.ls 0 l.length),(13,.pv (iV (l.length:Int))),(14,.pv (iV ((0:Nat):Int)))]) ([(1,0,.ls 0 l.length),(0,0,qaf l)]) (.ret) ([(2,.pv (iV 8))]) ([])) :
 Fn 35 1 [qay 0 l] [(0,0,qaf l)] (.pv (iV (8))) 0 []:=
 Fz [] [.t false,Lf r0]
  tI (Ai h64 (Lo r0 [] tI))
abbrev qse (l:List Pt):Prop:=Rl 1 1 35 0 45 2 ([(1,.pp 1 0),(12,.ls 0 l.length),(13,.pv (iV (l.length:Int))),(14,.pv (iV ((0:Nat):Int)))]) ([(1,0,.ls 0 l.length),(0,0,qaf l)]) (.exit 0) ([(1,.pp 1 0)]) ([(1,0,.ls 0 l.length),(0,0,qaf l)])
theorem qpO {l:List Pt} (h64:decide ((l.length:Int)>64)=false) (r0:qse l) (r1:Rl 1 1 35 1 45 2 ([(1,.pp 1 0),(6,.pv (iV ((0+1:Nat):Int)))]) ([(1,0,.ls 0 l.length),(0,0,qaf l)]) (.ret) ([(2,.pv (iV 32))]) ([])) :
 Fn 35 1 [qay 0 l] [(0,0,qaf l)] (.pv (iV (32))) 0 []:=
 Fz [] [.t false,Lf r0,Lf r1]
  tI (Ai h64 (Lo r0 [] (Lo r1 [] tI)))
theorem qq1 {l:List Pt} (h64:decide ((l.length:Int)>64)=false) (r0:qse l) (r1:Rl 1 1 35 1 45 2 ([(1,.pp 1 0),(6,.pv (iV ((0+1:Nat):Int)))]) ([(1,0,.ls 0 l.length),(0,0,qaf l)]) (.exit 2) ([]) ([])) :
 Fn 35 1 [qay 0 l] [(0,0,qaf l)] (.pv (iV (0))) 0 []:=
 Fz [] [.t false,Lf r0,Lf r1]
  tI (Ai h64 (Lo r0 [] (Lo r1 [] tI)))
end Go.Proofs.Ytgbmdijodlfcaaa

namespace Go.Proofs.Ytgbmdijodlfcaaa
set_option maxRecDepth 100000
open Go.RowKit
abbrev qoT (td:Int) (tn:Int):HpL:=[(0,0,.pv (iV tn)),(0,1,.pv (iV td))]
theorem qrB {p q:Pt} {tn td:Int} (he:(p.id==q.id)=true) :
 Fn 78 1 [.pv (ptV p),.pv (ptV q),.pp 0 0] (qoT td tn) (.pv (iV (0))) 0 []:=
 Fz [] [.t true]
  tI (Ai he tI)
theorem qrX {p q:Pt} {tn td:Int} (he:(p.id==q.id)=false) (ha:Pure Try.prog 69 #[qad p.id p.a p.b,qad q.id q.a q.b,qac tn td] (.tuple #[.bool true,iV 0])) :
 Fn 78 1 [.pv (ptV p),.pv (ptV q),.pp 0 0] (qoT td tn) (.pv (iV (-1))) 0 []:=
 Fz [] [.t false,Rf ha]
  tI (Ai he (Ai ha tI))
theorem qqx {p q:Pt} {tn td:Int} (he:(p.id==q.id)=false) (ha:Pure Try.prog 69 #[qad p.id p.a p.b,qad q.id q.a q.b,qac tn td] (.tuple #[.bool false,iV 0])) :
 Fn 78 1 [.pv (ptV p),.pv (ptV q),.pp 0 0] (qoT td tn) (.pv (iV (1))) 0 []:=
 Fz [] [.t false,Rf ha]
  tI (Ai he (Ai ha tI))
abbrev qor (l:List Pt) (m:Pt) (td:Int) (tn:Int):HpL:=[(0,0,qaf l),(1,0,.pv (iV tn)),(1,1,.pv (iV td)),(3,0,.pv (iV (m).id)),(3,1,.pv (iV (m).a)),(3,2,.pv (iV (m).b)),(2,0,.pv (iV 0)),(2,1,.pv (iV 0)),(2,2,.pv (iV 0))]
abbrev qr1 (l:List Pt) (p:Pt) (td:Int) (tn:Int):HpL:=[(0,0,qaf l),(1,0,.pv (iV tn)),(1,1,.pv (iV td)),(3,0,.pv (iV (p).id)),(3,1,.pv (iV (p).a)),(3,2,.pv (iV (p).b)),(2,0,.pv (iV 0)),(2,1,.pv (iV 0)),(2,2,.pv (iV 0))]
abbrev qro (k:Nat) (l:List Pt):TmL:=[(0,.ls 0 l.length),(1,.pc 78 [.pp 1 0]),(4,.pp 2 0),(5,.pp 3 0),(6,.pv (iV (k:Int)))]
theorem qrq {l:List Pt} {k:Nat} {p m:Pt} {c:Int} {tn td:Int} (hk:l[k]?=some p) (hin:0≤(k:Int)∧(k:Int)<(l.length:Int)) (hlt:decide ((k:Int)<(l.length:Int))=true) (hc:Fn 78 1 [.pv (ptV p),.pv (ptV m),.pp 0 0] (qoT td tn) (.pv (iV (c))) 0 []) (hz:decide (c<0)=true) (hs:iV (IntKind.i64.wrap ((k:Int)+1))=iV (((k+1:Nat):Int))) {e:Exit} {tm2:TmL} {hp2:HpL}
 (r:Rl 2 2 60 0 33 4 ([(0,.ls 0 l.length),(1,.pc 78 [.pp 1 0]),(4,.pp 2 0),(5,.pp 3 0),(6,.pv (iV ((k+1:Nat):Int)))]) (qr1 l p td tn) e tm2 hp2):Rl 2 2 60 0 33 4 (qro k l) (qor l m td tn) e tm2 hp2:=
 RunsL.next [] 300 [.t true,.r (ptV p),Cf hc [1],.t true,.r (ptV p),Re hs]
  (Ro (Ai hlt (Ai hin (Ai (qdP hk) (Co hc [1] 4 (Ai hz (Ai hin (Ai (qdP hk) (Ai hs tI))))))))) r
theorem qrc {l:List Pt} {k:Nat} {p m:Pt} {c:Int} {tn td:Int} (hk:l[k]?=some p) (hin:0≤(k:Int)∧(k:Int)<(l.length:Int)) (hlt:decide ((k:Int)<(l.length:Int))=true) (hc:Fn 78 1 [.pv (ptV p),.pv (ptV m),.pp 0 0] (qoT td tn) (.pv (iV (c))) 0 []) (hz:decide (c<0)=false) (hs:iV (IntKind.i64.wrap ((k:Int)+1))=iV (((k+1:Nat):Int))) {e:Exit} {tm2:TmL} {hp2:HpL}
 (r:Rl 2 2 60 0 33 4 ([(0,.ls 0 l.length),(1,.pc 78 [.pp 1 0]),(4,.pp 2 0),(5,.pp 3 0),(6,.pv (iV ((k+1:Nat):Int)))]) (qor l m td tn) e tm2 hp2):Rl 2 2 60 0 33 4 (qro k l) (qor l m td tn) e tm2 hp2:=
 RunsL.next [] 300 [.t true,.r (ptV p),Cf hc [1],.t false,Re hs]
  (Ro (Ai hlt (Ai hin (Ai (qdP hk) (Co hc [1] 4 (Ai hz (Ai hs tI))))))) r
theorem qoO {l:List Pt} {k:Nat} {m:Pt} {tn td:Int} (hge:decide ((k:Int)<(l.length:Int))=false):Rl 2 2 60 0 33 4 (qro k l) (qor l m td tn) (.exit 0) ([(4,.pp 2 0),(5,.pp 3 0)]) (qor l m td tn):=
 RunsL.stop [] 300 [.t false] (fun h=>by cases h)
  (Ro (Ai hge tI))
theorem qnH {l:List Pt} {p m:Pt} {tn td:Int} (hk:l[0]?=some p) (hin:0≤(0:Int)∧(0:Int)<(l.length:Int)) (h1:decide ((l.length:Int)<1)=false) (r0:Rl 2 2 60 0 33 4 ([(0,.ls 0 l.length),(1,.pc 78 [.pp 1 0]),(4,.pp 2 0),(5,.pp 3 0),(6,.pv (iV ((0+1:Nat):Int)))]) (qr1 l p td tn) (.exit 0) ([(4,.pp 2 0),(5,.pp 3 0)]) (qor l m td tn)) :
 Fn 60 2 [.ls 0 l.length,.pc 78 [.pp 1 0]] [(0,0,qaf l),(1,0,.pv (iV tn)),(1,1,.pv (iV td))] (.pv (ptV m)) 0 []:=
 Fz [] [.t false,.r (ptV p),Lf r0]
  tI (Ai h1 (Ai hin (Ai (qdP hk) (Lo r0 [] tI))))
theorem qkC {l:List Pt} {tn td:Int} (hc:Fn 59 1 [qay 0 l,.pv (qac tn td)] [(0,0,qaf l)] (.pv (iV (0))) 0 []) (h0:((l.length:Int)==0)=true) :
 Fn 32 1 [qay 0 l,.pv (qac tn td)] [(0,0,qaf l)] (.pv (.tuple #[iV (0),iV (42)])) 0 []:=
 Fz [] [Cf hc [0],.k,.t true]
  tI (Co hc [0] 3 (Ai h0 tI))
theorem qiK {l:List Pt} {m:Pt} {tn td:Int} (hc:Fn 59 1 [qay 0 l,.pv (qac tn td)] [(0,0,qaf l)] (.pv (iV (0))) 0 []) (h0:((l.length:Int)==0)=false) (hm:Fn 60 2 [.ls 0 l.length,.pc 78 [.pp 1 0]] [(0,0,qaf l),(1,0,.pv (iV tn)),(1,1,.pv (iV td))] (.pv (ptV m)) 0 []) :
 Fn 32 1 [qay 0 l,.pv (qac tn td)] [(0,0,qaf l)] (.pv (.tuple #[iV (m.id),iV (0)])) 0 []:=
 Fz [] [Cf hc [0],.k,.t false,.k,Cf hm [0,3]]
  tI (Co hc [0] 3 (Ai h0 (Co hm [0,3] 4 tI)))
end Go.Proofs.Ytgbmdijodlfcaaa

namespace Go.Proofs.Ytgbmdijodlfcaaa
set_option maxRecDepth 100000
open Go.ChangeShapes Go.WideShapes Go.ChangeAt Go.RowKit Go.Joins Go.Deep
theorem qjA:Try.prog.cellsOf 24=1:=by kernel_rfl
theorem qoG:Try.prog.cellsOf 22=1:=by kernel_rfl
theorem qqa:Try.prog.cellsOf 68=3:=by kernel_rfl
theorem qmT:Try.prog.cellsOf 3=1:=by kernel_rfl
theorem qnp:Try.prog.cellsOf 2=1:=by kernel_rfl
theorem qkT:Try.prog.readableRec 24=true:=by kernel_rfl
theorem qmV:24<Try.prog.types.size:=of_decide_eq_true (by kernel_rfl)
section
variable {H:Type} {enc:TypeId×Value→H} {W:World} {base:Nat} {spare:Nat→Bool} {held:Bool}
theorem qpp (f:Nat→Pt):∀ (n j:Nat) (v:Value),(qdM ((List.range n).map f))[j]?=some v→j/3<n∧[iV (f (j/3)).id,iV (f (j/3)).a,iV (f (j/3)).b][j%3]?=some v:=by
 intro n j v h
 have hj:j<n*3:=by
  have:=(List.getElem?_eq_some_iff.1 h).1
  rw[qcp] at this
  simpa using this
 have hk:j/3<n:=by omega
 have hg:=qc7 (l:=(List.range n).map f) (k:=j/3) (p:=f (j/3)) (by simp[hk])
 refine⟨hk,?_⟩
 have h3:j%3=0∨j%3=1∨j%3=2:=by omega
 have e:j=j/3*3+j%3:=by omega
 rw[e] at h
 rcases h3 with e3 | e3 | e3<;>rw[e3] at h ⊢
 ·rw[Nat.add_zero,hg.1] at h;exact h
 ·rw[hg.2.1] at h;exact h
 ·rw[hg.2.2] at h;exact h
theorem qla {fuel:Nat} {cs:List Value} {x:DataW H×List MemPlace} (h:DataW.trod enc Try.prog W base spare held fuel 22 cs=some x) :
 ∃ (u:Value) (l:List Pt),cs=[u]∧Rd W 3 u l.length (qdM l)∧∀ p∈l,((Lit.int .i64 p.id).wf=true∧(Lit.int .i64 p.a).wf=true∧(Lit.int .i64 p.b).wf=true):=by
 rcases open_slice Try.underlying22 h with ⟨rfl,_⟩ | ⟨a,len,cap,m,n,D,Pl,rfl,_,hlc,_,hm,_,hi⟩
 ·exact⟨_,[],rfl,⟨rfl,none,0,rfl,Nat.le_refl _,fun j v hv=>by simp[qdM] at hv⟩,fun p hp=>by simp at hp⟩
 have hlm:len≤m:=by rw[hm];split<;>omega
 have each:∀ i,i<len→∃ p:Pt,W.cell? (a.add (i*3))=some (iV p.id)∧W.cell? (a.add (i*3+1))=some (iV p.a)∧W.cell? (a.add (i*3+2))=some (iV p.b)∧
  ((Lit.int .i64 p.id).wf=true∧(Lit.int .i64 p.a).wf=true∧(Lit.int .i64 p.b).wf=true):=by
  intro i hil
  obtain⟨cs',hc,ht⟩:=hi i (by omega)
  rw[qqa] at hc
  obtain⟨y0,y1,y2,n',_,hlen,t0,t1,t2⟩:=trod_struct3 Try.underlying68 ht
  obtain⟨_,hcl,hat⟩:=World.cells?_some hc
  match cs',hcl with
  | [c0,c1,c2],_=>
   obtain⟨pi,e0,_,w0⟩:=DataW.trod_int Try.underlying3 t0
   obtain⟨pa,e1,_,w1⟩:=DataW.trod_int Try.underlying2 t1
   obtain⟨pb,e2,_,w2⟩:=DataW.trod_int Try.underlying2 t2
   simp[qmT,qnp] at e0 e1 e2
   refine⟨⟨pi,pa,pb⟩,?_,?_,?_,w0,w1,w2⟩
   ·have:=hat 0 (by omega);rw[add_add] at this;simpa [e0] using this
   ·have:=hat 1 (by omega);rw[add_add] at this;simpa [e1] using this
   ·have:=hat 2 (by omega);rw[add_add] at this;simpa [e2] using this
 haveI:Inhabited Pt:=⟨⟨0,0,0⟩⟩
 obtain⟨f,hf⟩:=choose_lt (α:=Pt) each
 refine⟨_,(List.range len).map f,rfl,⟨qcp _,some a,cap,by simp,by simpa using hlc,fun j v hv=>?_⟩,fun p hp=>?_⟩
 ·obtain⟨hk,he⟩:=qpp f len j v hv
  obtain⟨c0,c1,c2,_⟩:=hf _ hk
  have hcell:W.cell? (a.add j)=some v:=by
   have h3:j%3=0∨j%3=1∨j%3=2:=by omega
   have e:j=j/3*3+j%3:=by omega
   rcases h3 with e3 | e3 | e3<;>rw[e3] at he e<;>rw[e]<;>simp at he<;>subst he
   ·exact c0
   ·exact c1
   ·exact c2
  obtain⟨b,off,spot⟩:=a
  have hs:spot=none:=by simpa [Addr.add] using World.cell?_spot (hf 0 (by omega)).1
  subst hs
  exact⟨b,off,rfl,by rw[← Go.WideShapes.add_plain];exact hcell⟩
 ·obtain⟨i,hi',rfl⟩:=List.mem_map.1 hp
  exact (hf i (List.mem_range.1 hi')).2.2.2
theorem qkv {r:Reach} {b0:Nat} {v:Value} {d:DataW H} {p:List MemPlace} (hv:Value.okWide Try.prog W r b0 24 v) (h:DataW.Trod enc Try.prog W base spare held 24 v d p) :
 ∃ (u:Value) (l:List Pt),v=.agg #[u]∧Rd W 3 u l.length (qdM l)∧∀ p∈l,((Lit.int .i64 p.id).wf=true∧(Lit.int .i64 p.a).wf=true∧(Lit.int .i64 p.b).wf=true):=by
 obtain⟨cs,rfl,hsz⟩:=okWide_struct Try.underlying24 hv
 obtain⟨fuel,hf⟩:=h
 obtain⟨y0,n,_,hlen,h0⟩:=trod_struct1 Try.underlying24 hf
 obtain⟨u,l,hc,hr,hb⟩:=qla h0
 refine⟨u,l,?_,hr,hb⟩
 rw[qoG] at hc
 have h1:cs.size=1:=hsz.trans qjA
 obtain⟨c0,rfl⟩:∃ c0,cs=#[c0]:=by
  obtain⟨L⟩:=cs
  match L,h1 with
  | [c0],_=>exact⟨c0,rfl⟩
 simp[Value.cells] at hc
 rw[hc]
end
theorem qin:∀ (l:List Pt) (v:Value),v∈qdM l→v.oneCell'=true
 | [],_,h=>by simp[qdM] at h
 | p::r,v,h=>by
  simp only[qdM,List.mem_cons] at h
  rcases h with rfl | rfl | rfl | h
  ·rfl
  ·rfl
  ·rfl
  ·exact qin r v h
end Go.Proofs.Ytgbmdijodlfcaaa
