/-
  Joined: Cr, Fa, Fq, Fc, Fm, Fn, Fr, Fs. Conditions: none.
-/
import Derived.Test.YtgbmdijodlfcaaaW22
import Derived.Test.YtgbmdijodlfcaaaW21
import Derived.ProofKit
import Derived.OpenShut
import Derived.Lib.SmallJoins
import Derived.Deep.Slices
import Derived.Deep.Strs
import Derived.Deep.Fields
import Derived.Carry
namespace Go.Proofs.Ytgbmdijodlfcaaa
set_option maxRecDepth 100000
open Go.RowKit
def okP (n a b:Int):Bool:=decide (0≤n∧n≤65535∧-1048576≤a∧a≤1048576∧-1048576≤b∧b≤1048576)
theorem qbZ {n a b:Int}:okP n a b=true↔0≤n∧n≤65535∧-1048576≤a∧a≤1048576∧-1048576≤b∧b≤1048576:=by simp[okP]
theorem dt {p:Prop} [Decidable p] (h:p):decide p=true:=by simp[h]
theorem df {p:Prop} [Decidable p] (h:¬ p):decide p=false:=by simp[h]
theorem qbc {n a b:Int} (h:okP n a b=true):Pure Try.prog 62 #[qad n a b] (iV 0):=by
 have h':=qbZ.1 h
 exact qqG (df (by omega)) (df (by omega)) (dt (by omega)) (dt (by omega)) (dt (by omega)) (dt (by omega))
theorem qnl {n a b:Int} (h:okP n a b=true):Pure Try.prog 75 #[qad n a b] (iV 0):=by
 have h':=qbZ.1 h
 exact qot (df (by omega)) (df (by omega)) (df (by omega)) (df (by omega)) (df (by omega)) (df (by omega))
theorem qgu {n a b:Int} (h:¬ okP n a b=true):Pure Try.prog 62 #[qad n a b] (iV 8):=by
 rw[qbZ] at h
 by_cases h1:n<0
 ·exact qqu (dt h1)
 by_cases h2:n>65535
 ·exact qqR (df h1) (dt h2)
 by_cases h3 : -1048576≤a
 ·by_cases h4:a≤1048576
  ·by_cases h5 : -1048576≤b
   ·exact qqw (df h1) (df h2) (dt h3) (dt h4) (dt h5) (df (by omega))
   ·exact qpY (df h1) (df h2) (dt h3) (dt h4) (df h5)
  ·exact qqS (df h1) (df h2) (dt h3) (df h4)
 ·exact qqY (df h1) (df h2) (df h3)
theorem ql0 {n a b:Int} (h:¬ okP n a b=true):Pure Try.prog 75 #[qad n a b] (iV 8):=by
 rw[qbZ] at h
 by_cases h1:n<0
 ·exact qqW (dt h1)
 by_cases h2:n>65535
 ·exact qp9 (df h1) (dt h2)
 by_cases h3:a < -1048576
 ·exact qpW (df h1) (df h2) (dt h3)
 by_cases h4:a>1048576
 ·exact qqh (df h1) (df h2) (df h3) (dt h4)
 by_cases h5:b < -1048576
 ·exact qqT (df h1) (df h2) (df h3) (df h4) (dt h5)
 ·exact qqm (df h1) (df h2) (df h3) (df h4) (df h5) (dt (by omega))
def qcf (P Q pb qb pi qi:Int):Bool:=decide (P>Q∨P=Q∧(pb>qb∨pb=qb∧pi<qi))
theorem qeE {P Q pb qb pi qi:Int} (h:P>Q∨P=Q∧(pb>qb∨pb=qb∧pi<qi)):qcf P Q pb qb pi qi=true:=dt h
theorem qe5 {P Q pb qb pi qi:Int} (h:¬ (P>Q∨P=Q∧(pb>qb∨pb=qb∧pi<qi))):qcf P Q pb qb pi qi=false:=df h
theorem qhx {pi pa pb qi qa qb:Int} (hp:okP pi pa pb=true) (hq:okP qi qa qb=true) (hb:pb≠qb) :
 ∃ m n,okB m n=true∧I64 m∧I64 n∧m*(pb-qb)=(qa-pa)*n∧Pure Try.prog 89 #[qad pi pa pb,qad qi qa qb] (qac m n):=by
 have hp':=qbZ.1 hp
 have hq':=qbZ.1 hq
 obtain⟨N,D,E,hr,hm⟩:=qlj (a:=qa-pa) (b:=pb-qb) (by unfold I64;omega) (by unfold I64;omega) (by omega)
 have key:E=0∧okB N D=true∧I64 N∧I64 D∧N*(pb-qb)=(qa-pa)*D:=by
  by_cases hs:0<pb-qb
  ·exact hr.fits hs (by omega) (by omega) (by omega)
  ·have h2:=hr.congr (p':=-(qa-pa)) (q':=-(pb-qb)) (by omega) (by omega) (by rw[Int.mul_neg,Int.neg_mul])
   obtain⟨e1,e2,e3,e4,e5⟩:=h2.fits (by omega) (by omega) (by omega) (by omega)
   refine⟨e1,e2,e3,e4,?_⟩
   rw[Int.mul_neg,Int.neg_mul] at e5
   omega
 obtain⟨rfl,k1,k2,k3,k4⟩:=key
 exact⟨N,D,k1,k2,k3,k4,qfu (by rw[qbF (by omega) (by omega)]) (by rw[qbF (by omega) (by omega)]) hm⟩
theorem qln {pi pa pb qi qa qb n d:Int} (hn:I64 n) (hd:I64 d) (hp:okP pi pa pb=true) (hq:okP qi qa qb=true) (ht:okB n d=true) (hij:pi≠qi) :
 Pure Try.prog 69 #[qad pi pa pb,qad qi qa qb,qac n d] (.tuple #[.bool (qcf (pa*d+pb*n) (qa*d+qb*n) pb qb pi qi),iV 0]):=by
 have c1:=qbc hp
 have c2:=qbc hq
 have c3:=qeL hn hd ht
 have c4:Pure Try.prog 82 #[qad pi pa pb,qad qi qa qb] (iV 0):=qqi (by simp[hij])
 have d0:0<d:=by have:=qeu ht;omega
 by_cases hb:pb=qb
 ·subst hb
  by_cases ha:pa=qa
  ·subst ha
   by_cases hi:pi<qi
   ·rw[qeE (Or.inr ⟨rfl,Or.inr ⟨rfl,hi⟩⟩)]
    exact qj8 c1 c2 c3 c4 (by simp) (dt hi)
   ·rw[qe5 (by omega)]
    exact qkm c1 c2 c3 c4 (by simp) (df hi)
  ·have e:pa*d-qa*d=(pa-qa)*d:=(Int.sub_mul _ _ _).symm
   by_cases hg:pa>qa
   ·have:=Int.mul_pos (show 0<pa-qa by omega) d0
    rw[qeE (Or.inl (by omega))]
    exact qk3 c1 c2 c3 c4 (by simp[ha]) (by simp) (dt hg)
   ·have:=Int.mul_neg_of_neg_of_pos (show pa-qa<0 by omega) d0
    rw[qe5 (by omega)]
    exact qj3 c1 c2 c3 c4 (by simp[ha]) (by simp) (df hg)
 ·obtain⟨m,k,h1,h2,h3,h4,h5⟩:=qhx hp hq hb
  have cc:=qoP hn hd h2 h3 ht h1
  have k0:0<k:=by have:=qeu h1;omega
  have key:(pa*d+pb*n-(qa*d+qb*n))*k=(pb-qb)*(n*k-m*d):=by
   have e1:(pb-qb)*(m*d)=(qa-pa)*k*d:=by rw[← h4,← Int.mul_assoc,Int.mul_comm (pb-qb) m]
   rw[Int.mul_sub,e1,Int.sub_mul,Int.add_mul,Int.add_mul,Int.sub_mul,Int.sub_mul,Int.sub_mul,← Int.mul_assoc,← Int.mul_assoc,Int.mul_right_comm qa k d,Int.mul_right_comm pa k d]
   omega
  have hs:(0≤n*k-m*d↔(n*k-m*d).sign≥0):=by
   rcases Int.lt_trichotomy (n*k-m*d) 0 with h | h | h
   ·rw[Int.sign_eq_neg_one_of_neg h];omega
   ·rw[h];decide
   ·rw[Int.sign_eq_one_of_pos h];omega
  generalize n*k-m*d=X at *
  generalize hP:pa*d+pb*n=P at *
  generalize hQ:qa*d+qb*n=Q at *
  by_cases hg:pb>qb
  ·by_cases hx:0≤X
   ·have:=Int.mul_nonneg (show 0≤pb-qb by omega) hx
    rw[qeE (by
     rcases Int.lt_or_le P Q with h | h
     ·have:=Int.mul_neg_of_neg_of_pos (show P-Q<0 by omega) k0;omega
     ·rcases Int.lt_or_eq_of_le h with h | h
      ·exact Or.inl h
      ·exact Or.inr ⟨h.symm,Or.inl hg⟩)]
    exact qiN c1 c2 c3 c4 (by simp[hb]) (by simp[hb]) h5 cc (dt (hs.1 hx)) (dt hg)
   ·have:=Int.mul_neg_of_pos_of_neg (show 0<pb-qb by omega) (show X<0 by omega)
    rw[qe5 (by
     intro h
     have hle:0≤P-Q:=by omega
     have:=Int.mul_nonneg hle (Int.le_of_lt k0)
     omega)]
    exact qi5 c1 c2 c3 c4 (by simp[hb]) (by simp[hb]) h5 cc (df (fun h=>hx (hs.2 h))) (dt hg)
  ·by_cases hx:0≤X
   ·have:=Int.mul_nonneg (show 0≤qb-pb by omega) hx
    have e:(pb-qb)*X = -((qb-pb)*X):=by rw[← Int.neg_mul];congr 1;omega
    rw[qe5 (by
     intro h
     have hlt:0<P-Q:=by omega
     have:=Int.mul_pos hlt k0
     omega)]
    exact qiH c1 c2 c3 c4 (by simp[hb]) (by simp[hb]) h5 cc (dt (hs.1 hx)) (df hg)
   ·have:=Int.mul_pos_of_neg_of_neg (show pb-qb<0 by omega) (show X<0 by omega)
    rw[qeE (by
     left
     rcases Int.lt_or_le Q P with h | h
     ·exact h
     ·have:(P-Q)*k≤0:=by
       have:=Int.mul_nonneg (show 0≤Q-P by omega) (Int.le_of_lt k0)
       have e:(P-Q)*k = -((Q-P)*k):=by rw[← Int.neg_mul];congr 1;omega
       omega
      omega)]
    exact qja c1 c2 c3 c4 (by simp[hb]) (by simp[hb]) h5 cc (df (fun h=>hx (hs.2 h))) (df hg)
end Go.Proofs.Ytgbmdijodlfcaaa

namespace Go.Proofs.Ytgbmdijodlfcaaa
set_option maxRecDepth 100000
open Go.RowKit
structure Pt where
 id:Int
 a:Int
 b:Int
abbrev ptV (p:Pt):Value:=qad p.id p.a p.b
def qgz:List Pt→List Value
 | []=>[]
 | p::r=>iV p.id::iV p.a::iV p.b::qgz r
theorem qeM:∀ {l:List Pt} {k:Nat} {p:Pt},l[k]?=some p→(qgz l)[k*3]?=some (iV p.id)∧(qgz l)[k*3+1]?=some (iV p.a)∧(qgz l)[k*3+2]?=some (iV p.b)
 | [],k,p,h=>by simp at h
 | q::r,0,p,h=>by simp at h;subst h;exact⟨rfl,rfl,rfl⟩
 | q::r,k+1,p,h=>by
  have:=qeM (l:=r) (k:=k) (p:=p) (by simpa using h)
  rw[show (k+1)*3=k*3+1+1+1 by omega]
  exact this
theorem qmO {l:List Pt} {k:Nat} {p:Pt} (h:l[k]?=some p):qit (qgz l) (0*3+k*3) [iV p.id,iV p.a,iV p.b]:=by
 obtain⟨h1,h2,h3⟩:=qeM h
 intro j v hj
 rw[show 0*3+k*3+j=k*3+j by omega]
 match j,hj with
 | 0,hj=>cases hj;exact h1
 | 1,hj=>cases hj;exact h2
 | 2,hj=>cases hj;exact h3
 | j+3,hj=>simp at hj
theorem qk4 {l:List Pt} {k:Nat} {p:Pt} (h:l[k]?=some p):qit (qgz l) (0*3+k*3) [iV p.id]:=by
 intro j v hj
 rw[show 0*3+k*3+j=k*3+j by omega]
 match j,hj with
 | 0,hj=>cases hj;exact (qeM h).1
 | j+1,hj=>simp at hj
theorem RunsL.rounds {P:Program} {lo fr:Nat} {c:Code} {n nb:Nat} (tm:Nat→List (Nat×SV)) (hp:Nat→List (Nat×Nat×SV)) {e:Exit} {tm2:TmL} {hp2:HpL} {N:Nat} :
 ∀ (d i:Nat),i+d=N→(∀ j,i≤j→j<N→RunsL P lo fr c n nb (tm (j+1)) (hp (j+1)) e tm2 hp2→RunsL P lo fr c n nb (tm j) (hp j) e tm2 hp2)→RunsL P lo fr c n nb (tm N) (hp N) e tm2 hp2→RunsL P lo fr c n nb (tm i) (hp i) e tm2 hp2
 | 0,i,h,_,last=>by
  have:i=N:=by omega
  subst this;exact last
 | d+1,i,h,step,last=>step i (Nat.le_refl i) (by omega) (RunsL.rounds tm hp d (i+1) (by omega) (fun j h1 h2=>step j (by omega) h2) last)
abbrev qaq (l:List Pt):SV:=.row 68 3 l.length (qgz l)
abbrev qaF (b:Nat) (l:List Pt):SV:=.ag [.ls b l.length]
theorem qaz {k:Nat} (h:k≤1000000):iV (IntKind.i64.wrap ((k:Int)+1))=iV ((k+1:Nat):Int):=by rw[qbF (by omega) (by omega)];rfl
end Go.Proofs.Ytgbmdijodlfcaaa

namespace Go.Proofs.Ytgbmdijodlfcaaa
set_option maxRecDepth 100000
open Go.ChangeShapes Go.WideShapes Go.ChangeAt Go.RowKit Go.Joins Go.Deep
section
variable {H:Type} {enc:TypeId×Value→H} {W:World} {base:Nat} {spare:Nat→Bool} {held:Bool}
end
theorem qgv:∀ (l:List Pt) (v:Value),v∈qgz l→v.oneCell'=true
 | [],_,h=>by simp[qgz] at h
 | p::r,v,h=>by
  simp only[qgz,List.mem_cons] at h
  rcases h with rfl | rfl | rfl | h
  ·rfl
  ·rfl
  ·rfl
  ·exact qgv r v h
end Go.Proofs.Ytgbmdijodlfcaaa

namespace Go.Proofs.Ytgbmdijodlfcaaa
set_option maxRecDepth 100000
open Go.RowKit
abbrev qp8 (k:Nat) (l:List Pt):TmL:=[(1,.pp 1 0),(12,.ls 0 l.length),(13,.pv (iV (l.length:Int))),(14,.pv (iV (k:Int)))]
theorem qgH {l:List Pt} {k:Nat} {p:Pt} (hk:l[k]?=some p) (hin:0≤(k:Int)∧(k:Int)<(l.length:Int)) (hlt:decide ((k:Int)<(l.length:Int))=true) (hc:Pure Try.prog 62 #[qad p.id p.a p.b] (iV (0))) (hs:iV (IntKind.i64.wrap ((k:Int)+1))=iV (((k+1:Nat):Int))) {e:Exit} {tm2:TmL} {hp2:HpL}
 (r:Rl 1 1 35 0 45 2 ([(1,.pp 1 0),(12,.ls 0 l.length),(13,.pv (iV (l.length:Int))),(14,.pv (iV ((k+1:Nat):Int)))]) ([(1,0,.ls 0 l.length),(0,0,qaq l)]) e tm2 hp2):Rl 1 1 35 0 45 2 (qp8 k l) ([(1,0,.ls 0 l.length),(0,0,qaq l)]) e tm2 hp2:=
 RunsL.next [] 300 [.t true,.r (ptV p),Rf hc,.k,Re hs]
  (Ro (Ai hlt (Ai hin (Ai (qmO hk) (Ai hc (Ai hs tI)))))) r
theorem qnj {l:List Pt} {k:Nat} {p:Pt} (hk:l[k]?=some p) (hin:0≤(k:Int)∧(k:Int)<(l.length:Int)) (hlt:decide ((k:Int)<(l.length:Int))=true) (hc:Pure Try.prog 62 #[qad p.id p.a p.b] (iV (8))):Rl 1 1 35 0 45 2 (qp8 k l) ([(1,0,.ls 0 l.length),(0,0,qaq l)]) (.ret) ([(2,.pv (iV 8))]) ([]):=
 RunsL.stop [] 300 [.t true,.r (ptV p),Rf hc,.k] (fun h=>by cases h)
  (Ro (Ai hlt (Ai hin (Ai (qmO hk) (Ai hc tI)))))
theorem qnm {l:List Pt} {k:Nat} (hge:decide ((k:Int)<(l.length:Int))=false):Rl 1 1 35 0 45 2 (qp8 k l) ([(1,0,.ls 0 l.length),(0,0,qaq l)]) (.exit 0) ([(1,.pp 1 0)]) ([(1,0,.ls 0 l.length),(0,0,qaq l)]):=
 RunsL.stop [] 300 [.t false] (fun h=>by cases h)
  (Ro (Ai hge tI))
theorem qgK {l:List Pt} {k:Nat} {p q:Pt} (hq:l[k]?=some q) (hk:l[k+1]?=some p) (hi0:0≤(k:Int)∧(k:Int)<(l.length:Int)) (hi1:0≤((k+1:Nat):Int)∧((k+1:Nat):Int)<(l.length:Int)) (hlt:decide (((k+1:Nat):Int)<(l.length:Int))=true) (hm:iV (IntKind.i64.wrap (((k+1:Nat):Int)-1))=iV (k:Int)) (hg:decide (q.id≥p.id)=false) (hs:iV (IntKind.i64.wrap (((k+1:Nat):Int)+1))=iV (((k+1+1:Nat):Int))) {e:Exit} {tm2:TmL} {hp2:HpL}
 (r:Rl 1 1 35 1 45 2 ([(1,.pp 1 0),(6,.pv (iV ((k+1+1:Nat):Int)))]) ([(1,0,.ls 0 l.length),(0,0,qaq l)]) e tm2 hp2):Rl 1 1 35 1 45 2 ([(1,.pp 1 0),(6,.pv (iV ((k+1:Nat):Int)))]) ([(1,0,.ls 0 l.length),(0,0,qaq l)]) e tm2 hp2:=
 RunsL.next [] 300 [.t true,.r (iV (k:Int)),.r (iV q.id),.r (iV p.id),.t false,.r (iV (((k+1+1:Nat):Int)))]
  (Ro (Ai hlt (Ai hm (Ai hi0 (Ai (qk4 hq) (Ai hi1 (Ai (qk4 hk) (Ai hg (Ai hs tI))))))))) r
theorem qnq {l:List Pt} {k:Nat} {p q:Pt} (hq:l[k]?=some q) (hk:l[k+1]?=some p) (hi0:0≤(k:Int)∧(k:Int)<(l.length:Int)) (hi1:0≤((k+1:Nat):Int)∧((k+1:Nat):Int)<(l.length:Int)) (hlt:decide (((k+1:Nat):Int)<(l.length:Int))=true) (hm:iV (IntKind.i64.wrap (((k+1:Nat):Int)-1))=iV (k:Int)) (hg:decide (q.id≥p.id)=true):Rl 1 1 35 1 45 2 ([(1,.pp 1 0),(6,.pv (iV ((k+1:Nat):Int)))]) ([(1,0,.ls 0 l.length),(0,0,qaq l)]) (.ret) ([(2,.pv (iV 32))]) ([]):=
 RunsL.stop [] 300 [.t true,.r (iV (k:Int)),.r (iV q.id),.r (iV p.id),.t true] (fun h=>by cases h)
  (Ro (Ai hlt (Ai hm (Ai hi0 (Ai (qk4 hq) (Ai hi1 (Ai (qk4 hk) (Ai hg tI))))))))
theorem qiK {l:List Pt} {k:Nat} (hge:decide ((k:Int)<(l.length:Int))=false):Rl 1 1 35 1 45 2 ([(1,.pp 1 0),(6,.pv (iV ((k:Nat):Int)))]) ([(1,0,.ls 0 l.length),(0,0,qaq l)]) (.exit 2) ([]) ([]):=
 RunsL.stop [] 300 [.t false] (fun h=>by cases h)
  (Ro (Ai hge tI))
theorem qm7 {l:List Pt} (h64:decide ((l.length:Int)>64)=true) :
 Fn 35 1 [qaF 0 l] [(0,0,qaq l)] (.pv (iV (4))) 0 []:=
 Fz [] [.t true]
  tI (Ai h64 tI)
theorem qoo {l:List Pt} (h64:decide ((l.length:Int)>64)=false) (r0:Rl 1 1 35 0 45 2 ([(1,.pp 1 0),(12,.ls 0 l.length),(13,.pv (iV (l.length:Int))),(14,.pv (iV ((0:Nat):Int)))]) ([(1,0,.ls 0 l.length),(0,0,qaq l)]) (.ret) ([(2,.pv (iV 8))]) ([])) :
 Fn 35 1 [qaF 0 l] [(0,0,qaq l)] (.pv (iV (8))) 0 []:=
 Fz [] [.t false,Lf r0]
  tI (Ai h64 (Lo r0 [] tI))
abbrev qq4 (l:List Pt):Prop:=Rl 1 1 35 0 45 2 ([(1,.pp 1 0),(12,.ls 0 l.length),(13,.pv (iV (l.length:Int))),(14,.pv (iV ((0:Nat):Int)))]) ([(1,0,.ls 0 l.length),(0,0,qaq l)]) (.exit 0) ([(1,.pp 1 0)]) ([(1,0,.ls 0 l.length),(0,0,qaq l)])
theorem qnY {l:List Pt} (h64:decide ((l.length:Int)>64)=false) (r0:qq4 l) (r1:Rl 1 1 35 1 45 2 ([(1,.pp 1 0),(6,.pv (iV ((0+1:Nat):Int)))]) ([(1,0,.ls 0 l.length),(0,0,qaq l)]) (.ret) ([(2,.pv (iV 32))]) ([])) :
 Fn 35 1 [qaF 0 l] [(0,0,qaq l)] (.pv (iV (32))) 0 []:=
 Fz [] [.t false,Lf r0,Lf r1]
  tI (Ai h64 (Lo r0 [] (Lo r1 [] tI)))
theorem qpZ {l:List Pt} (h64:decide ((l.length:Int)>64)=false) (r0:qq4 l) (r1:Rl 1 1 35 1 45 2 ([(1,.pp 1 0),(6,.pv (iV ((0+1:Nat):Int)))]) ([(1,0,.ls 0 l.length),(0,0,qaq l)]) (.exit 2) ([]) ([])) :
 Fn 35 1 [qaF 0 l] [(0,0,qaq l)] (.pv (iV (0))) 0 []:=
 Fz [] [.t false,Lf r0,Lf r1]
  tI (Ai h64 (Lo r0 [] (Lo r1 [] tI)))
end Go.Proofs.Ytgbmdijodlfcaaa

namespace Go.Proofs.Ytgbmdijodlfcaaa
set_option maxRecDepth 100000
open Go.RowKit
def qi9 (p:Pt):Bool:=okP p.id p.a p.b
def Up (l:List Pt):Prop:=∀ (k:Nat) (p q:Pt),l[k]?=some p→l[k+1]?=some q→p.id<q.id
noncomputable def qdR (l:List Pt):Int:=open Classical in if 64<l.length then 4 else if ∀ p∈l,qi9 p=true then (if Up l then 0 else 32) else 8
theorem qa2 (P:Nat→Prop):∀ (N:Nat),(∀ k,k<N→P k)∨∃ j,j<N∧¬ P j∧∀ i,i<j→P i
 | 0=>Or.inl fun k hk=>by omega
 | N+1=>by
  rcases qa2 P N with h | ⟨j,h1,h2⟩
  ·by_cases hN:P N
   ·exact Or.inl fun k hk=>by
     rcases Nat.lt_or_ge k N with h' | h'
     ·exact h k h'
     ·have:k=N:=by omega
      subst this;exact hN
   ·exact Or.inr ⟨N,by omega,hN,h⟩
  ·exact Or.inr ⟨j,by omega,h2⟩
theorem qaA {α:Type} {l:List α} {k:Nat} (h:k<l.length):∃ p,l[k]?=some p:=⟨l[k],List.getElem?_eq_getElem h⟩
theorem qaC {α:Type} {l:List α} {k:Nat} {p:α} (h:l[k]?=some p):k<l.length:=(List.getElem?_eq_some_iff.1 h).1
theorem qaM {k n:Nat} (h:k<n):0≤(k:Int)∧(k:Int)<(n:Int):=⟨by omega,by omega⟩
theorem Up.mono {l:List Pt} (h:Up l):∀ {i j:Nat} {p q:Pt},i<j→l[i]?=some p→l[j]?=some q→p.id<q.id:=by
 intro i j
 induction j with
 | zero=>intro p q hij;omega
 | succ j ih=>
  intro p q hij hp hq
  by_cases e:i=j
  ·subst e;exact h i p q hp hq
  ·obtain⟨r,hr⟩:=qaA (l:=l) (k:=j) (by have:=qaC hq;omega)
   exact Int.lt_trans (ih (by omega) hp hr) (h j r q hr hq)
theorem qpx {k n:Nat} (h:k<n) (hn:n≤64):iV (IntKind.i64.wrap ((k:Int)+1))=iV ((k+1:Nat):Int):=qaz (by omega)
theorem qeI (k:Nat) (h:k≤1000000):iV (IntKind.i64.wrap (((k+1:Nat):Int)-1))=iV (k:Int):=by rw[show ((k+1:Nat):Int)-1=(k:Int) by omega,qbF (by omega) (by omega)]
theorem qfL (l:List Pt):(64<l.length∧qdR l=4)∨(l.length≤64∧(∃ (j:Nat) (p:Pt),l[j]?=some p∧¬ qi9 p=true∧∀ i,i<j→∀ q,l[i]?=some q→qi9 q=true)∧qdR l=8)∨
 (l.length≤64∧(∀ p∈l,qi9 p=true)∧(∃ (j:Nat) (p q:Pt),l[j]?=some q∧l[j+1]?=some p∧¬ q.id<p.id∧∀ i,i<j→∀ p q,l[i]?=some p→l[i+1]?=some q→p.id<q.id)∧qdR l=32)∨
 (l.length≤64∧(∀ p∈l,qi9 p=true)∧Up l∧qdR l=0):=by
 by_cases h0:64<l.length
 ·exact Or.inl ⟨h0,by unfold qdR;rw[if_pos h0]⟩
 refine Or.inr ?_
 by_cases h1:∀ p∈l,qi9 p=true
 ·refine Or.inr ?_
  by_cases h2:Up l
  ·exact Or.inr ⟨by omega,h1,h2,by unfold qdR;rw[if_neg h0,if_pos h1,if_pos h2]⟩
  ·refine Or.inl ⟨by omega,h1,?_,by unfold qdR;rw[if_neg h0,if_pos h1,if_neg h2]⟩
   rcases qa2 (fun k=>∀ p q,l[k]?=some p→l[k+1]?=some q→p.id<q.id) l.length with h | ⟨j,hj,hn,hb⟩
   ·exact (h2 fun k p q hp hq=>h k (qaC hp) p q hp hq).elim
   ·simp only[Classical.not_forall,not_imp] at hn
    obtain⟨p,q,hp,hq,hpq⟩:=hn
    exact⟨j,q,p,hp,hq,hpq,hb⟩
 ·refine Or.inl ⟨by omega,?_,by unfold qdR;rw[if_neg h0,if_neg h1]⟩
  rcases qa2 (fun k=>∀ q,l[k]?=some q→qi9 q=true) l.length with h | ⟨j,hj,hn,hb⟩
  ·exact (h1 fun p hp=>by obtain⟨k,hk,rfl⟩:=List.getElem_of_mem hp;exact h k hk _ (List.getElem?_eq_getElem hk)).elim
  ·simp only[Classical.not_forall,not_imp] at hn
   obtain⟨p,hp,hpq⟩:=hn
   exact⟨j,p,hp,hpq,hb⟩
abbrev pcT (l:List Pt) (k:Nat):List (Nat×SV):=[(1,.pp 1 0),(12,.ls 0 l.length),(13,.pv (iV (l.length:Int))),(14,.pv (iV (k:Int)))]
theorem qgL {l:List Pt} (hn:l.length≤64) (h:∀ p∈l,qi9 p=true):Rl 1 1 35 0 45 2 (pcT l 0) [(1,0,.ls 0 l.length),(0,0,qaq l)] (.exit 0) [(1,.pp 1 0)] [(1,0,.ls 0 l.length),(0,0,qaq l)]:=
 RunsL.rounds (pcT l) (fun _=>[(1,0,.ls 0 l.length),(0,0,qaq l)]) l.length 0 (Nat.zero_add _)
  (fun k _ hk r=>by
   obtain⟨p,hp⟩:=qaA hk
   exact qgH hp (qaM hk) (dt (by omega)) (qbc (h p (List.mem_of_getElem? hp))) (qpx hk hn) r)
  (qnm (df (by omega)))
theorem qfR {l:List Pt} (hn:l.length≤64) {j:Nat} {p:Pt} (hp:l[j]?=some p) (hb:¬ qi9 p=true) (h:∀ i,i<j→∀ q,l[i]?=some q→qi9 q=true):Rl 1 1 35 0 45 2 (pcT l 0) [(1,0,.ls 0 l.length),(0,0,qaq l)] .ret [(2,.pv (iV 8))] []:=by
 have hj:=qaC hp
 refine RunsL.rounds (pcT l) (fun _=>[(1,0,.ls 0 l.length),(0,0,qaq l)]) j 0 (Nat.zero_add _) (fun k _ hk r=>?_) (qnj hp (qaM hj) (dt (by omega)) (qgu hb))
 obtain⟨q,hq⟩:=qaA (l:=l) (k:=k) (by omega)
 exact qgH hq (qaM (qaC hq)) (dt (by omega)) (qbc (h k hk q hq)) (qpx (qaC hq) hn) r
theorem qkp {l:List Pt} (hn:l.length≤64) (h:Up l):Rl 1 1 35 1 45 2 [(1,.pp 1 0),(6,.pv (iV ((0+1:Nat):Int)))] [(1,0,.ls 0 l.length),(0,0,qaq l)] (.exit 2) [] []:=by
 by_cases h0:l.length=0
 ·exact qiK (k:=0+1) (df (by omega))
 refine RunsL.rounds (fun k=>[(1,.pp 1 0),(6,.pv (iV (k:Int)))]) (fun _=>[(1,0,.ls 0 l.length),(0,0,qaq l)]) (N:=l.length) (l.length-1) (0+1) (by omega) (fun k h1 hk r=>?_) (qiK (df (by omega)))
 obtain⟨m,rfl⟩:∃ m,k=m+1:=⟨k-1,by omega⟩
 obtain⟨q,hq⟩:=qaA (l:=l) (k:=m) (by omega)
 obtain⟨p,hp⟩:=qaA hk
 exact qgK hq hp (qaM (by omega)) (qaM hk) (dt (by omega)) (qeI m (by omega)) (df (by have:=h m q p hq hp;omega)) (qpx hk hn) r
theorem qfp {l:List Pt} (hn:l.length≤64) {j:Nat} {p q:Pt} (hq:l[j]?=some q) (hp:l[j+1]?=some p) (hb:¬ q.id<p.id) (h:∀ i,i<j→∀ p q,l[i]?=some p→l[i+1]?=some q→p.id<q.id):Rl 1 1 35 1 45 2 [(1,.pp 1 0),(6,.pv (iV ((0+1:Nat):Int)))] [(1,0,.ls 0 l.length),(0,0,qaq l)] .ret [(2,.pv (iV 32))] []:=by
 have hj:=qaC hp
 refine RunsL.rounds (fun k=>[(1,.pp 1 0),(6,.pv (iV (k:Int)))]) (fun _=>[(1,0,.ls 0 l.length),(0,0,qaq l)]) (N:=j+1) j (0+1) (by omega) (fun k h1 hk r=>?_) (qnq hq hp (qaM (by omega)) (qaM hj) (dt (by omega)) (qeI j (by omega)) (dt (by omega)))
 obtain⟨m,rfl⟩:∃ m,k=m+1:=⟨k-1,by omega⟩
 obtain⟨q',hq'⟩:=qaA (l:=l) (k:=m) (by omega)
 obtain⟨p',hp'⟩:=qaA (l:=l) (k:=m+1) (by omega)
 exact qgK hq' hp' (qaM (by omega)) (qaM (by omega)) (dt (by omega)) (qeI m (by omega)) (df (by have:=h m (by omega) q' p' hq' hp';omega)) (qpx (n:=l.length) (by omega) hn) r
theorem qbw (l:List Pt):Fn 35 1 [qaF 0 l] [(0,0,qaq l)] (.pv (iV (qdR l))) 0 []:=by
 rcases qfL l with ⟨h,e⟩ | ⟨h,⟨j,p,hp,hb,hf⟩,e⟩ | ⟨h,h1,⟨j,p,q,hq,hp,hb,hf⟩,e⟩ | ⟨h,h1,h2,e⟩<;>rw[e]
 ·exact qm7 (dt (by omega))
 ·exact qoo (df (by omega)) (qfR h hp hb hf)
 ·exact qnY (df (by omega)) (qgL h h1) (qfp h hq hp hb hf)
 ·exact qpZ (df (by omega)) (qgL h h1) (qkp h h2)
structure Val (l:List Pt):Prop where
 len:l.length≤64
 ok:∀ p∈l,qi9 p=true
 up:Up l
theorem qeB {l:List Pt}:qdR l=0↔Val l:=by
 rcases qfL l with ⟨h,e⟩ | ⟨h,⟨j,p,hp,hb,hf⟩,e⟩ | ⟨h,h1,⟨j,p,q,hq,hp,hb,hf⟩,e⟩ | ⟨h,h1,h2,e⟩<;>rw[e]
 ·exact⟨fun h=>by omega,fun v=>by have:=v.len;omega⟩
 ·exact⟨fun h=>by omega,fun v=>(hb (v.ok p (List.mem_of_getElem? hp))).elim⟩
 ·exact⟨fun h=>by omega,fun v=>(hb (v.up j q p hq hp)).elim⟩
 ·exact⟨fun _=>⟨h,h1,h2⟩,fun _=>rfl⟩
theorem place (l:List Pt) (hv:Val l) (id:Int):(∃ (k:Nat) (p:Pt),l[k]?=some p∧p.id=id)∨((∀ p∈l,p.id≠id)∧∃ k,k≤l.length∧(∀ (t:Nat) (p:Pt),t<k→l[t]?=some p→p.id<id)∧∀ (t:Nat) (p:Pt),k≤t→l[t]?=some p→id<p.id):=by
 by_cases h:∃ (k:Nat) (p:Pt),l[k]?=some p∧p.id=id
 ·exact Or.inl h
 ·refine Or.inr ⟨fun p hp e=>?_,?_⟩
  ·obtain⟨k,hk,rfl⟩:=List.getElem_of_mem hp
   exact h ⟨k,_,List.getElem?_eq_getElem hk,e⟩
  ·rcases qa2 (fun k=>∀ p,l[k]?=some p→p.id<id) l.length with hh | ⟨j,hj,hn,hb⟩
   ·exact⟨l.length,Nat.le_refl _,fun t p ht hp=>hh t ht p hp,fun t p ht hp=>by have:=qaC hp;omega⟩
   ·refine⟨j,by omega,fun t p ht hp=>hb t ht p hp,fun t p ht hp=>?_⟩
    simp only[Classical.not_forall,not_imp] at hn
    obtain⟨q,hq,hlt⟩:=hn
    have hne:q.id≠id:=fun e=>h ⟨j,q,hq,e⟩
    rcases Nat.lt_or_ge j t with h' | h'
    ·have:=hv.up.mono h' hq hp;omega
    ·have:t=j:=by omega
     subst this
     rw[hq] at hp
     cases hp
     omega
end Go.Proofs.Ytgbmdijodlfcaaa

namespace Go.Proofs.Ytgbmdijodlfcaaa
set_option maxRecDepth 100000
open Go.RowKit
theorem qdF {α:Type} {l:List α} {k:Nat} {p:α} (h:l[k]?=some p):l.take (k+1)=l.take k++[p]:=by rw[List.take_add_one,h];rfl
end Go.Proofs.Ytgbmdijodlfcaaa

namespace Go.Proofs.Ytgbmdijodlfcaaa
set_option maxRecDepth 100000
open Go.RowKit
def ld (tn td:Int) (p q:Pt):Bool:=qcf (p.a*td+p.b*tn) (q.a*td+q.b*tn) p.b q.b p.id q.id
theorem qd4 {P Q pb qb pi qi:Int}:qcf P Q pb qb pi qi=true↔(P>Q∨P=Q∧(pb>qb∨pb=qb∧pi<qi)):=by unfold qcf;exact decide_eq_true_iff
theorem qcr {P Q pb qb pi qi:Int}:qcf P Q pb qb pi qi=false↔¬ (P>Q∨P=Q∧(pb>qb∨pb=qb∧pi<qi)):=by unfold qcf;exact decide_eq_false_iff_not
section
variable {tn td:Int} {p q r:Pt}
theorem qlZ (p:Pt):ld tn td p p=false:=qcr.2 (by omega)
theorem qhm (h:ld tn td p q=true) (k:ld tn td q r=true):ld tn td p r=true:=by
 unfold ld at *
 generalize p.a*td+p.b*tn=P at *
 generalize q.a*td+q.b*tn=Q at *
 generalize r.a*td+r.b*tn=R at *
 rw[qd4] at *
 omega
theorem qmq (h:ld tn td p q=true):ld tn td q p=false:=by
 cases hh:ld tn td q p
 ·rfl
 ·have:=qhm h hh;rw[qlZ] at this;cases this
end
def rk (tn td:Int) (l:List Pt) (p:Pt):Nat:=l.countP fun q=>ld tn td q p
theorem qly {tn td:Int}:∀ (s:List Pt) (k:Nat) (p:Pt),s.Pairwise (fun p q=>ld tn td p q=true)→s[k]?=some p→rk tn td s p=k
 | [],_,_,_,h=>by simp at h
 | a::r,0,p,hp,h=>by
  simp only[List.getElem?_cons_zero,Option.some.injEq] at h
  subst h
  rw[List.pairwise_cons] at hp
  unfold rk
  rw[List.countP_eq_zero]
  intro q hq
  rcases List.mem_cons.1 hq with rfl | hq
  ·rw[qlZ];decide
  ·rw[qmq (hp.1 q hq)];decide
 | a::r,k+1,p,hp,h=>by
  rw[List.getElem?_cons_succ] at h
  rw[List.pairwise_cons] at hp
  have:=qly r k p hp.2 h
  unfold rk at this ⊢
  rw[List.countP_cons,this,if_pos (hp.1 p (List.mem_of_getElem? h))]
structure Srt (l:List Pt) (tn td:Int) (s:List Pt):Prop where
 perm:s.Perm l
 pw:s.Pairwise (fun p q=>ld tn td p q=true)
theorem Srt.len {l s:List Pt} {tn td:Int} (h:Srt l tn td s):s.length=l.length:=h.perm.length_eq
theorem Srt.rank {l s:List Pt} {tn td:Int} (h:Srt l tn td s) {k:Nat} {p:Pt} (hk:s[k]?=some p):rk tn td l p=k:=by
 have:=qly s k p h.pw hk
 unfold rk at this ⊢
 rw[← h.perm.countP_eq];exact this
theorem Srt.at {l s:List Pt} {tn td:Int} (h:Srt l tn td s) {p:Pt} (hp:p∈l):s[rk tn td l p]?=some p:=by
 obtain⟨k,hk,e⟩:=List.getElem_of_mem (h.perm.mem_iff.2 hp)
 have hk':s[k]?=some p:=by rw[List.getElem?_eq_getElem hk,e]
 rw[h.rank hk'];exact hk'
theorem Srt.lt {l s:List Pt} {tn td:Int} (h:Srt l tn td s) {p:Pt} (hp:p∈l):rk tn td l p<l.length:=by rw[← h.len];exact qaC (h.at hp)
end Go.Proofs.Ytgbmdijodlfcaaa

namespace Go.Proofs.Ytgbmdijodlfcaaa
set_option maxRecDepth 100000
open Go.RowKit
structure Tm (tn td:Int):Prop where
 hn:I64 tn
 hd:I64 td
 ok:okB tn td=true
noncomputable def tE (l:List Pt) (tn td:Int):Int:=if qdR l=0 then (if okB tn td=true then 0 else 8) else qdR l
theorem qkl {l:List Pt} {tn td:Int} (hv:Val l) (ht:okB tn td=true):tE l tn td=0:=by unfold tE;rw[if_pos (qeB.2 hv),if_pos ht]
section
variable {l:List Pt} {tn td:Int}
end
end Go.Proofs.Ytgbmdijodlfcaaa
