/-
  Joined: Fa, Fd, Fb, Fc, Fq. Conditions: none.
-/
import Derived.Test.YtgbmdijodlfcaaaW25
import Derived.Test.YtgbmdijodlfcaaaW21
import Derived.ProofKit
import Derived.OpenShut
import Derived.Lib.SmallJoins
import Derived.Deep.Slices
import Derived.Deep.Strs
import Derived.Deep.Fields
import Derived.Carry
namespace Go.Proofs.Ytgbmdijodlfcaaa
set_option maxRecDepth 100000
open Go.RowKit
structure Pt where
 id:Int
 a:Int
 b:Int
abbrev ptV (p:Pt):Value:=qaa p.id p.a p.b
def qaN:List Pt→List Value
 | []=>[]
 | p::r=>iV p.id::iV p.a::iV p.b::qaN r
theorem qbl:∀ (a b:List Pt),qaN (a++b)=qaN a++qaN b
 | [],_=>rfl
 | p::r,b=>by simp[qaN,qbl r b]
theorem qbi:∀ (l:List Pt),(qaN l).length=l.length*3
 | []=>rfl
 | p::r=>by simp[qaN,qbi r];omega
theorem qcD:∀ {l:List Pt} {k:Nat} {p:Pt},l[k]?=some p→(qaN l)[k*3]?=some (iV p.id)∧(qaN l)[k*3+1]?=some (iV p.a)∧(qaN l)[k*3+2]?=some (iV p.b)
 | [],k,p,h=>by simp at h
 | q::r,0,p,h=>by simp at h;subst h;exact⟨rfl,rfl,rfl⟩
 | q::r,k+1,p,h=>by
  have:=qcD (l:=r) (k:=k) (p:=p) (by simpa using h)
  rw[show (k+1)*3=k*3+1+1+1 by omega]
  exact this
theorem qeq {l:List Pt} {k:Nat} {p:Pt} (h:l[k]?=some p):qhE (qaN l) (0*3+k*3) [iV p.id,iV p.a,iV p.b]:=by
 obtain⟨h1,h2,h3⟩:=qcD h
 intro j v hj
 rw[show 0*3+k*3+j=k*3+j by omega]
 match j,hj with
 | 0,hj=>cases hj;exact h1
 | 1,hj=>cases hj;exact h2
 | 2,hj=>cases hj;exact h3
 | j+3,hj=>simp at hj
theorem qdK {l:List Pt} {k:Nat} {p:Pt} (h:l[k]?=some p):qhE (qaN l) (0*3+k*3) [iV p.id]:=by
 intro j v hj
 rw[show 0*3+k*3+j=k*3+j by omega]
 match j,hj with
 | 0,hj=>cases hj;exact (qcD h).1
 | j+1,hj=>simp at hj
theorem RunsL.rounds {P:Program} {lo fr:Nat} {c:Code} {n nb:Nat} (tm:Nat→List (Nat×SV)) (hp:Nat→List (Nat×Nat×SV)) {e:Exit} {tm2:TmL} {hp2:HpL} {N:Nat} :
 ∀ (d i:Nat),i+d=N→(∀ j,i≤j→j<N→RunsL P lo fr c n nb (tm (j+1)) (hp (j+1)) e tm2 hp2→RunsL P lo fr c n nb (tm j) (hp j) e tm2 hp2)→RunsL P lo fr c n nb (tm N) (hp N) e tm2 hp2→RunsL P lo fr c n nb (tm i) (hp i) e tm2 hp2
 | 0,i,h,_,last=>by
  have:i=N:=by omega
  subst this;exact last
 | d+1,i,h,step,last=>step i (Nat.le_refl i) (by omega) (RunsL.rounds tm hp d (i+1) (by omega) (fun j h1 h2=>step j (by omega) h2) last)
abbrev qai (l:List Pt):SV:=.row 68 3 l.length (qaN l)
abbrev qaD (b:Nat) (l:List Pt):SV:=.ag [.ls b l.length]
theorem qal {k:Nat} (h:k≤1000000):iV (IntKind.i64.wrap ((k:Int)+1))=iV ((k+1:Nat):Int):=by rw[qaQ (by omega) (by omega)];rfl
theorem qmM {l:List Pt} (h1:decide ((l.length:Int)>16)=true) (h2:decide ((l.length:Int)<64)=true):Fn 19 1 [qaD 0 l] [(0,0,qai l)] (.pv (.bool true)) 0 []:=
 qcK 200 [] [.t true,.t true] tI (Ai h1 (Ai h2 tI)) (by kernel_rfl)
theorem qnM {l:List Pt} (h1:decide ((l.length:Int)>16)=false) (h2:decide ((l.length:Int)>70)=false):Fn 19 1 [qaD 0 l] [(0,0,qai l)] (.pv (.bool false)) 0 []:=
 qcK 200 [] [.t false,.t false] tI (Ai h1 (Ai h2 tI)) (by kernel_rfl)
theorem qkh {l:List Pt} (h1:decide ((l.length:Int)>16)=true) (h2:decide ((l.length:Int)<64)=false) (h3:decide ((l.length:Int)>70)=true):Fn 19 1 [qaD 0 l] [(0,0,qai l)] (.pv (.bool true)) 0 []:=
 qcK 200 [] [.t true,.t false,.t true] tI (Ai h1 (Ai h2 (Ai h3 tI))) (by kernel_rfl)
theorem qlt {l:List Pt} (h1:decide ((l.length:Int)>16)=true) (h2:decide ((l.length:Int)<64)=false) (h3:decide ((l.length:Int)>70)=false):Fn 19 1 [qaD 0 l] [(0,0,qai l)] (.pv (.bool false)) 0 []:=
 qcK 200 [] [.t true,.t false,.t false] tI (Ai h1 (Ai h2 (Ai h3 tI))) (by kernel_rfl)
theorem qso (l:List Pt):SV.ag [.ls 4 (0+l.length)]=(SV.ag [.ls 1 l.length]).ren (qaR [(1,4)]):=by rw[Nat.zero_add];rfl
theorem qqB (l:List Pt):some (SV.row 68 3 (0+l.length) ([]++qaN l))=some (qai l):=by rw[Nat.zero_add,List.nil_append]
theorem qeo (m:List Pt) (p:Pt):qaN m++[iV p.id,iV p.a,iV p.b]=qaN (m++[p]):=by rw[qbl];rfl
theorem qrN (b:Nat) (m:List Pt) (p:Pt):some (SV.ls b (m.length+1))=some (SV.ls b (m++[p]).length):=by rw[List.length_append];rfl
theorem qqD (m:List Pt) (p:Pt):some (SV.row 68 3 (m.length+1) (qaN m++[iV p.id,iV p.a,iV p.b]))=some (qai (m++[p])):=by rw[qeo,qai,List.length_append];rfl
theorem qqR (b:Nat) (m:List Pt) (p q:Pt):some (SV.ls b (m.length+1+1))=some (SV.ls b (m++[p]++[q]).length):=by rw[List.length_append,List.length_append];rfl
theorem qoS (m:List Pt) (p q:Pt):some (SV.row 68 3 (m.length+1+1) (qaN m++[iV p.id,iV p.a,iV p.b]++[iV q.id,iV q.a,iV q.b]))=some (qai (m++[p]++[q])):=by
 rw[qeo,qeo,qai,List.length_append,List.length_append];rfl
theorem qrk (b:Nat) (m:List Pt) (p:Pt):SV.tu [.ag [.ls b (m.length+1)],.one (.pv (iV 0))]=(SV.tu [.ag [.ls 1 (m++[p]).length],.one (.pv (iV 0))]).ren (qaR [(1,b)]):=by rw[List.length_append];rfl
theorem qjC:∀ (l:List Pt) (k:Nat) (p:Pt),k<l.length→qaN (l.set k p)=qdE (qaN l) (k*3) [iV p.id,iV p.a,iV p.b]
 | [],k,p,h=>by simp at h
 | q::r,0,p,_=>rfl
 | q::r,k+1,p,h=>by
  rw[List.set_cons_succ,qaN,qjC r k p (by simpa using h),show (k+1)*3=k*3+1+1+1 by omega]
  simp[qdE,qaN,Nat.add_right_comm]
theorem qrG (l:List Pt) (k:Nat) (p:Pt) (h:k<l.length):qaN (l.set k p)=qdE (qaN l) (0*3+k*3) [iV p.id,iV p.a,iV p.b]:=by
 rw[Nat.zero_mul,Nat.zero_add];exact qjC l k p h
theorem qsw (l:List Pt) (k:Nat) (h:k<l.length):0*3+k*3+3≤(qaN l).length:=by rw[qbi];omega
theorem qsz (b:Nat) (l:List Pt) (k:Nat) (p:Pt):SV.tu [.ag [.ls b l.length],.one (.pv (iV 0))]=(SV.tu [.ag [.ls 1 (l.set k p).length],.one (.pv (iV 0))]).ren (qaR [(1,b)]):=by rw[List.length_set];rfl
theorem qqs (l:List Pt) (k:Nat) (p:Pt):some (SV.row 68 3 l.length (qaN (l.set k p)))=some (qai (l.set k p)):=by rw[qai,List.length_set]
theorem qdx:∀ (l:List Pt) (k:Nat),(qaN l).drop (k*3)=qaN (l.drop k)
 | l,0=>by simp
 | [],k+1=>by simp[qaN]
 | p::r,k+1=>by rw[show (k+1)*3=k*3+1+1+1 by omega,List.drop_succ_cons];exact qdx r k
theorem qdf:∀ (l:List Pt) (k:Nat),(qaN l).take (k*3)=qaN (l.take k)
 | l,0=>by simp[qaN]
 | [],k+1=>by simp[qaN]
 | p::r,k+1=>by rw[show (k+1)*3=k*3+1+1+1 by omega,List.take_succ_cons];exact congrArg (fun z=>iV p.id::iV p.a::iV p.b::z) (qdf r k)
theorem qgd (l:List Pt) (k:Nat):((qaN l).drop ((0+0)*3)).take (k*3)=qaN (l.take k):=by rw[Nat.zero_add,qdx,qdf];rfl
theorem qgg (l:List Pt) (k:Nat):((qaN l).drop ((0+k)*3)).take ((l.length-k)*3)=qaN (l.drop k):=by rw[Nat.zero_add,qdx,qdf,List.take_of_length_le (by simp)]
theorem qiH (l:List Pt) (k:Nat) (p:Pt) (h:k≤l.length):(l.take k++p::l.drop k).length=0+k+1+(l.length-k):=by simp;omega
theorem qsu (b:Nat) (l:List Pt) (k:Nat) (p:Pt) (h:k≤l.length):SV.tu [.ag [.ls b (0+k+1+(l.length-k))],.one (.pv (iV 0))]=(SV.tu [.ag [.ls 1 (l.take k++p::l.drop k).length],.one (.pv (iV 0))]).ren (qaR [(1,b)]):=by rw[qiH l k p h];rfl
theorem qrU (l:List Pt) (k:Nat) (p:Pt) (h:k≤l.length):some (SV.row 68 3 (0+k+1+(l.length-k)) ([]++((qaN l).drop ((0+0)*3)).take (k*3)++[iV p.id,iV p.a,iV p.b]++((qaN l).drop ((0+k)*3)).take ((l.length-k)*3)))=some (qai (l.take k++p::l.drop k)):=by
 rw[qgd,qgg,qai,qiH l k p h,qbl];simp[qaN]
theorem qgm (l:List Pt) (k:Nat) (h:k+1≤l.length):(l.take k++l.drop (k+1)).length=0+k+(l.length-(k+1)):=by simp;omega
theorem qrq (b:Nat) (l:List Pt) (k:Nat) (h:k+1≤l.length):SV.tu [.ag [.ls b (0+k+(l.length-(k+1)))],.one (.pv (iV 0))]=(SV.tu [.ag [.ls 1 (l.take k++l.drop (k+1)).length],.one (.pv (iV 0))]).ren (qaR [(1,b)]):=by rw[qgm l k h];rfl
theorem qqx (l:List Pt) (k:Nat) (h:k+1≤l.length):some (SV.row 68 3 (0+k+(l.length-(k+1))) ([]++((qaN l).drop ((0+0)*3)).take (k*3)++((qaN l).drop ((0+(k+1))*3)).take ((l.length-(k+1))*3)))=some (qai (l.take k++l.drop (k+1))):=by
 rw[qgd,qgg,qai,qgm l k h,qbl];simp
theorem qjB (l:List Pt) (k:Nat) (p:Pt) (h:k+1≤l.length):(l.take k++p::l.drop (k+1)).length=0+k+1+(l.length-(k+1)):=by simp;omega
theorem qsC (b:Nat) (l:List Pt) (k:Nat) (p:Pt) (h:k+1≤l.length):SV.tu [.ag [.ls b (0+k+1+(l.length-(k+1)))],.one (.pv (iV 0))]=(SV.tu [.ag [.ls 1 (l.take k++p::l.drop (k+1)).length],.one (.pv (iV 0))]).ren (qaR [(1,b)]):=by rw[qjB l k p h];rfl
theorem qrb (l:List Pt) (k:Nat) (p:Pt) (h:k+1≤l.length):some (SV.row 68 3 (0+k+1+(l.length-(k+1))) ([]++((qaN l).drop ((0+0)*3)).take (k*3)++[iV p.id,iV p.a,iV p.b]++((qaN l).drop ((0+(k+1))*3)).take ((l.length-(k+1))*3)))=some (qai (l.take k++p::l.drop (k+1))):=by
 rw[qgd,qgg,qai,qjB l k p h,qbl];simp[qaN]
theorem qsU {l:List Pt} {k:Nat} {p:Pt} (h:l[k]?=some p):qhE (qaN l) (0*3+k*3+1) [iV p.a]:=by
 intro j v hj
 rw[show 0*3+k*3+1+j=k*3+1+j by omega]
 match j,hj with
 | 0,hj=>cases hj;exact (qcD h).2.1
 | j+1,hj=>simp at hj
theorem ql4:∀ {l:List Pt} {k:Nat} {p:Pt} (_:l[k]?=some p) (x:Int),qaN (l.set k ⟨p.id,x,p.b⟩)=qdE (qaN l) (k*3+1) [iV x]
 | [],k,p,h,_=>by simp at h
 | q::r,0,p,h,x=>by simp at h;subst h;rfl
 | q::r,k+1,p,h,x=>by
  rw[List.set_cons_succ,qaN,ql4 (l:=r) (k:=k) (p:=p) (by simpa using h) x,show (k+1)*3+1=k*3+1+1+1+1 by omega]
  simp[qdE,qaN,Nat.add_right_comm]
theorem qsG {l:List Pt} {k:Nat} {p:Pt} (h:l[k]?=some p) (x:Int):qaN (l.set k ⟨p.id,x,p.b⟩)=qdE (qaN l) (0*3+k*3+1) [iV x]:=by rw[Nat.zero_mul,Nat.zero_add];exact ql4 h x
theorem qrj (l:List Pt) (k:Nat) (h:k<l.length):0*3+k*3+1+1≤(qaN l).length:=by rw[qbi];omega
theorem qrX (x:Int):(!(x==x))=false:=by simp
theorem qmS (x:Int):(x==x)=true:=by simp
theorem qqQ (p:Pt):(!(p.id==p.id&&(p.a==p.a&&(p.b==p.b&&true))))=false:=by simp
end Go.Proofs.Ytgbmdijodlfcaaa

namespace Go.Proofs.Ytgbmdijodlfcaaa
set_option maxRecDepth 100000
open Go.RowKit
theorem qhX {l:List Pt} {k:Nat} {p:Pt} {id:Int} (hk:l[k]?=some p) (hin:0≤(k:Int)∧(k:Int)<(l.length:Int)) (hlt:decide ((k:Int)<(l.length:Int))=true) (he:(p.id==id)=false) (hs:iV (IntKind.i64.wrap ((k:Int)+1))=iV (((k+1:Nat):Int))) {e:Exit} {tm2:TmL} {hp2:HpL}
 (r:Rl 1 1 58 0 22 2 ([(1,.pv (iV id)),(2,.pp 1 0),(5,.pv (iV ((k+1:Nat):Int)))]) ([(1,0,.ls 0 l.length),(0,0,qai l)]) e tm2 hp2):Rl 1 1 58 0 22 2 ([(1,.pv (iV id)),(2,.pp 1 0),(5,.pv (iV (k:Int)))]) ([(1,0,.ls 0 l.length),(0,0,qai l)]) e tm2 hp2:=
 RunsL.next [] 300 [.t true,.r (iV p.id),.t false,Re hs]
  (Ro (Ai hlt (Ai hin (Ai (qdK hk) (Ai he (Ai hs tI)))))) r
theorem qo5 {l:List Pt} {k:Nat} {p:Pt} {id:Int} (hk:l[k]?=some p) (hin:0≤(k:Int)∧(k:Int)<(l.length:Int)) (hlt:decide ((k:Int)<(l.length:Int))=true) (he:(p.id==id)=true):Rl 1 1 58 0 22 2 ([(1,.pv (iV id)),(2,.pp 1 0),(5,.pv (iV (k:Int)))]) ([(1,0,.ls 0 l.length),(0,0,qai l)]) (.ret) ([(4,.pv (iV (k:Int)))]) ([]):=
 RunsL.stop [] 300 [.t true,.r (iV p.id),.t true] (fun h=>by cases h)
  (Ro (Ai hlt (Ai hin (Ai (qdK hk) (Ai he tI)))))
theorem qqo {l:List Pt} {k:Nat} {id:Int} (hge:decide ((k:Int)<(l.length:Int))=false):Rl 1 1 58 0 22 2 ([(1,.pv (iV id)),(2,.pp 1 0),(5,.pv (iV (k:Int)))]) ([(1,0,.ls 0 l.length),(0,0,qai l)]) (.exit 0) ([]) ([]):=
 RunsL.stop [] 300 [.t false] (fun h=>by cases h)
  (Ro (Ai hge tI))
theorem qqY {l:List Pt} {id:Int} (r0:Rl 1 1 58 0 22 2 ([(1,.pv (iV id)),(2,.pp 1 0),(5,.pv (iV ((0:Nat):Int)))]) ([(1,0,.ls 0 l.length),(0,0,qai l)]) (.exit 0) ([]) ([])) :
 Fn 58 1 [qaD 0 l,.pv (iV (id))] [(0,0,qai l)] (.pv (iV (-1))) 0 []:=
 Fz [] [Lf r0]
  tI (Lo r0 [] tI)
theorem qp0 {l:List Pt} {k:Nat} {id:Int} (r0:Rl 1 1 58 0 22 2 ([(1,.pv (iV id)),(2,.pp 1 0),(5,.pv (iV ((0:Nat):Int)))]) ([(1,0,.ls 0 l.length),(0,0,qai l)]) (.ret) ([(4,.pv (iV (k:Int)))]) ([])) :
 Fn 58 1 [qaD 0 l,.pv (iV (id))] [(0,0,qai l)] (.pv (iV (k:Int))) 0 []:=
 Fz [] [Lf r0]
  tI (Lo r0 [] tI)
theorem qnX {l:List Pt} {tn td:Int} {e:Int} (hc:Fn 56 1 [qaD 0 l] [(0,0,qai l)] (.pv (iV (e))) 0 []) (he:(e !=0)=true) :
 Fn 29 1 [qaD 0 l,.pv (qad tn td)] [(0,0,qai l)] (.pv (iV (e))) 0 []:=
 Fz [] [Cf hc [0],.t true]
  tI (Co hc [0] 3 (Ai he tI))
theorem ql0 {l:List Pt} {tn td:Int} {e:Int} (hc:Fn 56 1 [qaD 0 l] [(0,0,qai l)] (.pv (iV (0))) 0 []) (ht:Pure Try.prog 57 #[qad tn td] (iV (e))) :
 Fn 29 1 [qaD 0 l,.pv (qad tn td)] [(0,0,qai l)] (.pv (iV (e))) 0 []:=
 Fz [] [Cf hc [0],.k,Rf ht]
  tI (Co hc [0] 3 (Ai ht tI))
end Go.Proofs.Ytgbmdijodlfcaaa

namespace Go.Proofs.Ytgbmdijodlfcaaa
set_option maxRecDepth 100000
open Go.RowKit
theorem qg4 {l:List Pt} {k:Nat} {p:Pt} (hk:l[k]?=some p) (hin:0≤(k:Int)∧(k:Int)<(l.length:Int)) (hlt:decide ((k:Int)<(l.length:Int))=true) (hc:Pure Try.prog 75 #[qaa p.id p.a p.b] (iV (0))) (hs:iV (IntKind.i64.wrap ((k:Int)+1))=iV (((k+1:Nat):Int))) {e:Exit} {tm2:TmL} {hp2:HpL}
 (r:Rl 1 1 56 0 44 2 ([(1,.pp 1 0),(3,.pv (iV ((k+1:Nat):Int)))]) ([(1,0,.ls 0 l.length),(0,0,qai l)]) e tm2 hp2):Rl 1 1 56 0 44 2 ([(1,.pp 1 0),(3,.pv (iV (k:Int)))]) ([(1,0,.ls 0 l.length),(0,0,qai l)]) e tm2 hp2:=
 RunsL.next [] 300 [.t true,.r (ptV p),Rf hc,.k,Re hs]
  (Ro (Ai hlt (Ai hin (Ai (qeq hk) (Ai hc (Ai hs tI)))))) r
theorem qmI {l:List Pt} {k:Nat} {p:Pt} (hk:l[k]?=some p) (hin:0≤(k:Int)∧(k:Int)<(l.length:Int)) (hlt:decide ((k:Int)<(l.length:Int))=true) (hc:Pure Try.prog 75 #[qaa p.id p.a p.b] (iV (8))):Rl 1 1 56 0 44 2 ([(1,.pp 1 0),(3,.pv (iV (k:Int)))]) ([(1,0,.ls 0 l.length),(0,0,qai l)]) (.ret) ([(2,.pv (iV 8))]) ([]):=
 RunsL.stop [] 300 [.t true,.r (ptV p),Rf hc,.k] (fun h=>by cases h)
  (Ro (Ai hlt (Ai hin (Ai (qeq hk) (Ai hc tI)))))
theorem qmD {l:List Pt} {k:Nat} (hge:decide ((k:Int)<(l.length:Int))=false):Rl 1 1 56 0 44 2 ([(1,.pp 1 0),(3,.pv (iV (k:Int)))]) ([(1,0,.ls 0 l.length),(0,0,qai l)]) (.exit 0) ([(1,.pp 1 0)]) ([(1,0,.ls 0 l.length),(0,0,qai l)]):=
 RunsL.stop [] 300 [.t false] (fun h=>by cases h)
  (Ro (Ai hge tI))
theorem qgM {l:List Pt} {k:Nat} {p q:Pt} (hq:l[k]?=some q) (hk:l[k+1]?=some p) (hi0:0≤(k:Int)∧(k:Int)<(l.length:Int)) (hi1:0≤((k+1:Nat):Int)∧((k+1:Nat):Int)<(l.length:Int)) (hlt:decide (((k+1:Nat):Int)<(l.length:Int))=true) (hm:iV (IntKind.i64.wrap (((k+1:Nat):Int)-1))=iV (k:Int)) (hg:decide (q.id≥p.id)=false) (hs:iV (IntKind.i64.wrap (((k+1:Nat):Int)+1))=iV (((k+1+1:Nat):Int))) {e:Exit} {tm2:TmL} {hp2:HpL}
 (r:Rl 1 1 56 1 44 2 ([(1,.pp 1 0),(4,.pv (iV ((k+1+1:Nat):Int)))]) ([(1,0,.ls 0 l.length),(0,0,qai l)]) e tm2 hp2):Rl 1 1 56 1 44 2 ([(1,.pp 1 0),(4,.pv (iV ((k+1:Nat):Int)))]) ([(1,0,.ls 0 l.length),(0,0,qai l)]) e tm2 hp2:=
 RunsL.next [] 300 [.t true,.r (iV (k:Int)),.r (iV q.id),.r (iV p.id),.t false,.r (iV (((k+1+1:Nat):Int)))]
  (Ro (Ai hlt (Ai hm (Ai hi0 (Ai (qdK hq) (Ai hi1 (Ai (qdK hk) (Ai hg (Ai hs tI))))))))) r
theorem qoe {l:List Pt} {k:Nat} {p q:Pt} (hq:l[k]?=some q) (hk:l[k+1]?=some p) (hi0:0≤(k:Int)∧(k:Int)<(l.length:Int)) (hi1:0≤((k+1:Nat):Int)∧((k+1:Nat):Int)<(l.length:Int)) (hlt:decide (((k+1:Nat):Int)<(l.length:Int))=true) (hm:iV (IntKind.i64.wrap (((k+1:Nat):Int)-1))=iV (k:Int)) (hg:decide (q.id≥p.id)=true):Rl 1 1 56 1 44 2 ([(1,.pp 1 0),(4,.pv (iV ((k+1:Nat):Int)))]) ([(1,0,.ls 0 l.length),(0,0,qai l)]) (.ret) ([(2,.pv (iV 32))]) ([]):=
 RunsL.stop [] 300 [.t true,.r (iV (k:Int)),.r (iV q.id),.r (iV p.id),.t true] (fun h=>by cases h)
  (Ro (Ai hlt (Ai hm (Ai hi0 (Ai (qdK hq) (Ai hi1 (Ai (qdK hk) (Ai hg tI))))))))
theorem qjn {l:List Pt} {k:Nat} (hge:decide (((k:Nat):Int)<(l.length:Int))=false):Rl 1 1 56 1 44 2 ([(1,.pp 1 0),(4,.pv (iV ((k:Nat):Int)))]) ([(1,0,.ls 0 l.length),(0,0,qai l)]) (.exit 2) ([]) ([]):=
 RunsL.stop [] 300 [.t false] (fun h=>by cases h)
  (Ro (Ai hge tI))
theorem qmP {l:List Pt} (h64:decide ((l.length:Int)>64)=true) :
 Fn 56 1 [qaD 0 l] [(0,0,qai l)] (.pv (iV 4)) 0 []:=
 Fz [] [.t true]
  tI (Ai h64 tI)
theorem qpY {l:List Pt} (h64:decide ((l.length:Int)>64)=false) (r0:Rl 1 1 56 0 44 2 ([(1,.pp 1 0),(3,.pv (iV (((0:Nat):Int):Int)))]) ([(1,0,.ls 0 l.length),(0,0,qai l)]) (.ret) ([(2,.pv (iV 8))]) ([])) :
 Fn 56 1 [qaD 0 l] [(0,0,qai l)] (.pv (iV 8)) 0 []:=
 Fz [] [.t false,Lf r0]
  tI (Ai h64 (Lo r0 [] tI))
abbrev qsr (l:List Pt):Prop:=Rl 1 1 56 0 44 2 ([(1,.pp 1 0),(3,.pv (iV (((0:Nat):Int):Int)))]) ([(1,0,.ls 0 l.length),(0,0,qai l)]) (.exit 0) ([(1,.pp 1 0)]) ([(1,0,.ls 0 l.length),(0,0,qai l)])
theorem qpN {l:List Pt} (h64:decide ((l.length:Int)>64)=false) (r0:qsr l) (r1:Rl 1 1 56 1 44 2 ([(1,.pp 1 0),(4,.pv (iV (((0+1:Nat):Int):Int)))]) ([(1,0,.ls 0 l.length),(0,0,qai l)]) (.ret) ([(2,.pv (iV 32))]) ([])) :
 Fn 56 1 [qaD 0 l] [(0,0,qai l)] (.pv (iV 32)) 0 []:=
 Fz [] [.t false,Lf r0,Lf r1]
  tI (Ai h64 (Lo r0 [] (Lo r1 [] tI)))
theorem qrI {l:List Pt} (h64:decide ((l.length:Int)>64)=false) (r0:qsr l) (r1:Rl 1 1 56 1 44 2 ([(1,.pp 1 0),(4,.pv (iV (((0+1:Nat):Int):Int)))]) ([(1,0,.ls 0 l.length),(0,0,qai l)]) (.exit 2) ([]) ([])) :
 Fn 56 1 [qaD 0 l] [(0,0,qai l)] (.pv (iV 0)) 0 []:=
 Fz [] [.t false,Lf r0,Lf r1]
  tI (Ai h64 (Lo r0 [] (Lo r1 [] tI)))
end Go.Proofs.Ytgbmdijodlfcaaa

namespace Go.Proofs.Ytgbmdijodlfcaaa
set_option maxRecDepth 100000
open Go.RowKit
abbrev qq5 (k:Nat) (l:List Pt):TmL:=[(1,.pp 1 0),(12,.ls 0 l.length),(13,.pv (iV (l.length:Int))),(14,.pv (iV (k:Int)))]
theorem qgn {l:List Pt} {k:Nat} {p:Pt} (hk:l[k]?=some p) (hin:0≤(k:Int)∧(k:Int)<(l.length:Int)) (hlt:decide ((k:Int)<(l.length:Int))=true) (hc:Pure Try.prog 62 #[qaa p.id p.a p.b] (iV (0))) (hs:iV (IntKind.i64.wrap ((k:Int)+1))=iV (((k+1:Nat):Int))) {e:Exit} {tm2:TmL} {hp2:HpL}
 (r:Rl 1 1 35 0 45 2 ([(1,.pp 1 0),(12,.ls 0 l.length),(13,.pv (iV (l.length:Int))),(14,.pv (iV ((k+1:Nat):Int)))]) ([(1,0,.ls 0 l.length),(0,0,qai l)]) e tm2 hp2):Rl 1 1 35 0 45 2 (qq5 k l) ([(1,0,.ls 0 l.length),(0,0,qai l)]) e tm2 hp2:=
 RunsL.next [] 300 [.t true,.r (ptV p),Rf hc,.k,Re hs]
  (Ro (Ai hlt (Ai hin (Ai (qeq hk) (Ai hc (Ai hs tI)))))) r
theorem qm7 {l:List Pt} {k:Nat} {p:Pt} (hk:l[k]?=some p) (hin:0≤(k:Int)∧(k:Int)<(l.length:Int)) (hlt:decide ((k:Int)<(l.length:Int))=true) (hc:Pure Try.prog 62 #[qaa p.id p.a p.b] (iV (8))):Rl 1 1 35 0 45 2 (qq5 k l) ([(1,0,.ls 0 l.length),(0,0,qai l)]) (.ret) ([(2,.pv (iV 8))]) ([]):=
 RunsL.stop [] 300 [.t true,.r (ptV p),Rf hc,.k] (fun h=>by cases h)
  (Ro (Ai hlt (Ai hin (Ai (qeq hk) (Ai hc tI)))))
theorem qnL {l:List Pt} {k:Nat} (hge:decide ((k:Int)<(l.length:Int))=false):Rl 1 1 35 0 45 2 (qq5 k l) ([(1,0,.ls 0 l.length),(0,0,qai l)]) (.exit 0) ([(1,.pp 1 0)]) ([(1,0,.ls 0 l.length),(0,0,qai l)]):=
 RunsL.stop [] 300 [.t false] (fun h=>by cases h)
  (Ro (Ai hge tI))
theorem qgG {l:List Pt} {k:Nat} {p q:Pt} (hq:l[k]?=some q) (hk:l[k+1]?=some p) (hi0:0≤(k:Int)∧(k:Int)<(l.length:Int)) (hi1:0≤((k+1:Nat):Int)∧((k+1:Nat):Int)<(l.length:Int)) (hlt:decide (((k+1:Nat):Int)<(l.length:Int))=true) (hm:iV (IntKind.i64.wrap (((k+1:Nat):Int)-1))=iV (k:Int)) (hg:decide (q.id≥p.id)=false) (hs:iV (IntKind.i64.wrap (((k+1:Nat):Int)+1))=iV (((k+1+1:Nat):Int))) {e:Exit} {tm2:TmL} {hp2:HpL}
 (r:Rl 1 1 35 1 45 2 ([(1,.pp 1 0),(6,.pv (iV ((k+1+1:Nat):Int)))]) ([(1,0,.ls 0 l.length),(0,0,qai l)]) e tm2 hp2):Rl 1 1 35 1 45 2 ([(1,.pp 1 0),(6,.pv (iV ((k+1:Nat):Int)))]) ([(1,0,.ls 0 l.length),(0,0,qai l)]) e tm2 hp2:=
 RunsL.next [] 300 [.t true,.r (iV (k:Int)),.r (iV q.id),.r (iV p.id),.t false,.r (iV (((k+1+1:Nat):Int)))]
  (Ro (Ai hlt (Ai hm (Ai hi0 (Ai (qdK hq) (Ai hi1 (Ai (qdK hk) (Ai hg (Ai hs tI))))))))) r
theorem qnQ {l:List Pt} {k:Nat} {p q:Pt} (hq:l[k]?=some q) (hk:l[k+1]?=some p) (hi0:0≤(k:Int)∧(k:Int)<(l.length:Int)) (hi1:0≤((k+1:Nat):Int)∧((k+1:Nat):Int)<(l.length:Int)) (hlt:decide (((k+1:Nat):Int)<(l.length:Int))=true) (hm:iV (IntKind.i64.wrap (((k+1:Nat):Int)-1))=iV (k:Int)) (hg:decide (q.id≥p.id)=true):Rl 1 1 35 1 45 2 ([(1,.pp 1 0),(6,.pv (iV ((k+1:Nat):Int)))]) ([(1,0,.ls 0 l.length),(0,0,qai l)]) (.ret) ([(2,.pv (iV 32))]) ([]):=
 RunsL.stop [] 300 [.t true,.r (iV (k:Int)),.r (iV q.id),.r (iV p.id),.t true] (fun h=>by cases h)
  (Ro (Ai hlt (Ai hm (Ai hi0 (Ai (qdK hq) (Ai hi1 (Ai (qdK hk) (Ai hg tI))))))))
theorem qjx {l:List Pt} {k:Nat} (hge:decide ((k:Int)<(l.length:Int))=false):Rl 1 1 35 1 45 2 ([(1,.pp 1 0),(6,.pv (iV ((k:Nat):Int)))]) ([(1,0,.ls 0 l.length),(0,0,qai l)]) (.exit 2) ([]) ([]):=
 RunsL.stop [] 300 [.t false] (fun h=>by cases h)
  (Ro (Ai hge tI))
theorem qnB {l:List Pt} (h64:decide ((l.length:Int)>64)=true) :
 Fn 35 1 [qaD 0 l] [(0,0,qai l)] (.pv (iV (4))) 0 []:=
 Fz [] [.t true]
  tI (Ai h64 tI)
theorem qoH {l:List Pt} (h64:decide ((l.length:Int)>64)=false) (r0:Rl 1 1 35 0 45 2 ([(1,.pp 1 0),(12,.ls 0 l.length),(13,.pv (iV (l.length:Int))),(14,.pv (iV ((0:Nat):Int)))]) ([(1,0,.ls 0 l.length),(0,0,qai l)]) (.ret) ([(2,.pv (iV 8))]) ([])) :
 Fn 35 1 [qaD 0 l] [(0,0,qai l)] (.pv (iV (8))) 0 []:=
 Fz [] [.t false,Lf r0]
  tI (Ai h64 (Lo r0 [] tI))
abbrev qsB (l:List Pt):Prop:=Rl 1 1 35 0 45 2 ([(1,.pp 1 0),(12,.ls 0 l.length),(13,.pv (iV (l.length:Int))),(14,.pv (iV ((0:Nat):Int)))]) ([(1,0,.ls 0 l.length),(0,0,qai l)]) (.exit 0) ([(1,.pp 1 0)]) ([(1,0,.ls 0 l.length),(0,0,qai l)])
theorem qoM {l:List Pt} (h64:decide ((l.length:Int)>64)=false) (r0:qsB l) (r1:Rl 1 1 35 1 45 2 ([(1,.pp 1 0),(6,.pv (iV ((0+1:Nat):Int)))]) ([(1,0,.ls 0 l.length),(0,0,qai l)]) (.ret) ([(2,.pv (iV 32))]) ([])) :
 Fn 35 1 [qaD 0 l] [(0,0,qai l)] (.pv (iV (32))) 0 []:=
 Fz [] [.t false,Lf r0,Lf r1]
  tI (Ai h64 (Lo r0 [] (Lo r1 [] tI)))
theorem qrS {l:List Pt} (h64:decide ((l.length:Int)>64)=false) (r0:qsB l) (r1:Rl 1 1 35 1 45 2 ([(1,.pp 1 0),(6,.pv (iV ((0+1:Nat):Int)))]) ([(1,0,.ls 0 l.length),(0,0,qai l)]) (.exit 2) ([]) ([])) :
 Fn 35 1 [qaD 0 l] [(0,0,qai l)] (.pv (iV (0))) 0 []:=
 Fz [] [.t false,Lf r0,Lf r1]
  tI (Ai h64 (Lo r0 [] (Lo r1 [] tI)))
end Go.Proofs.Ytgbmdijodlfcaaa

namespace Go.Proofs.Ytgbmdijodlfcaaa
set_option maxRecDepth 100000
open Go.ChangeShapes Go.WideShapes Go.ChangeAt Go.RowKit Go.Joins Go.Deep
theorem qiD:Try.prog.cellsOf 24=1:=by kernel_rfl
theorem qo6:Try.prog.cellsOf 22=1:=by kernel_rfl
theorem qpp:Try.prog.cellsOf 68=3:=by kernel_rfl
theorem qnO:Try.prog.cellsOf 3=1:=by kernel_rfl
theorem qn7:Try.prog.cellsOf 2=1:=by kernel_rfl
theorem qlP:Try.prog.readableRec 24=true:=by kernel_rfl
theorem qn8:24<Try.prog.types.size:=of_decide_eq_true (by kernel_rfl)
section
variable {H:Type} {enc:TypeId×Value→H} {W:World} {base:Nat} {spare:Nat→Bool} {held:Bool}
theorem qoI (f:Nat→Pt):∀ (n j:Nat) (v:Value),(qaN ((List.range n).map f))[j]?=some v→j/3<n∧[iV (f (j/3)).id,iV (f (j/3)).a,iV (f (j/3)).b][j%3]?=some v:=by
 intro n j v h
 have hj:j<n*3:=by
  have:=(List.getElem?_eq_some_iff.1 h).1
  rw[qbi] at this
  simpa using this
 have hk:j/3<n:=by omega
 have hg:=qcD (l:=(List.range n).map f) (k:=j/3) (p:=f (j/3)) (by simp[hk])
 refine⟨hk,?_⟩
 have h3:j%3=0∨j%3=1∨j%3=2:=by omega
 have e:j=j/3*3+j%3:=by omega
 rw[e] at h
 rcases h3 with e3 | e3 | e3<;>rw[e3] at h ⊢
 ·rw[Nat.add_zero,hg.1] at h;exact h
 ·rw[hg.2.1] at h;exact h
 ·rw[hg.2.2] at h;exact h
theorem qkz {fuel:Nat} {cs:List Value} {x:DataW H×List MemPlace} (h:DataW.trod enc Try.prog W base spare held fuel 22 cs=some x) :
 ∃ (u:Value) (l:List Pt),cs=[u]∧Rd W 3 u l.length (qaN l)∧∀ p∈l,((Lit.int .i64 p.id).wf=true∧(Lit.int .i64 p.a).wf=true∧(Lit.int .i64 p.b).wf=true):=by
 rcases open_slice Try.underlying22 h with ⟨rfl,_⟩ | ⟨a,len,cap,m,n,D,Pl,rfl,_,hlc,_,hm,_,hi⟩
 ·exact⟨_,[],rfl,⟨rfl,none,0,rfl,Nat.le_refl _,fun j v hv=>by simp[qaN] at hv⟩,fun p hp=>by simp at hp⟩
 have hlm:len≤m:=by rw[hm];split<;>omega
 have each:∀ i,i<len→∃ p:Pt,W.cell? (a.add (i*3))=some (iV p.id)∧W.cell? (a.add (i*3+1))=some (iV p.a)∧W.cell? (a.add (i*3+2))=some (iV p.b)∧
  ((Lit.int .i64 p.id).wf=true∧(Lit.int .i64 p.a).wf=true∧(Lit.int .i64 p.b).wf=true):=by
  intro i hil
  obtain⟨cs',hc,ht⟩:=hi i (by omega)
  rw[qpp] at hc
  obtain⟨y0,y1,y2,n',_,hlen,t0,t1,t2⟩:=trod_struct3 Try.underlying68 ht
  obtain⟨_,hcl,hat⟩:=World.cells?_some hc
  match cs',hcl with
  | [c0,c1,c2],_=>
   obtain⟨pi,e0,_,w0⟩:=DataW.trod_int Try.underlying3 t0
   obtain⟨pa,e1,_,w1⟩:=DataW.trod_int Try.underlying2 t1
   obtain⟨pb,e2,_,w2⟩:=DataW.trod_int Try.underlying2 t2
   simp[qnO,qn7] at e0 e1 e2
   refine⟨⟨pi,pa,pb⟩,?_,?_,?_,w0,w1,w2⟩
   ·have:=hat 0 (by omega);rw[add_add] at this;simpa [e0] using this
   ·have:=hat 1 (by omega);rw[add_add] at this;simpa [e1] using this
   ·have:=hat 2 (by omega);rw[add_add] at this;simpa [e2] using this
 haveI:Inhabited Pt:=⟨⟨0,0,0⟩⟩
 obtain⟨f,hf⟩:=choose_lt (α:=Pt) each
 refine⟨_,(List.range len).map f,rfl,⟨qbi _,some a,cap,by simp,by simpa using hlc,fun j v hv=>?_⟩,fun p hp=>?_⟩
 ·obtain⟨hk,he⟩:=qoI f len j v hv
  obtain⟨c0,c1,c2,_⟩:=hf _ hk
  have hcell:W.cell? (a.add j)=some v:=by
   have h3:j%3=0∨j%3=1∨j%3=2:=by omega
   have e:j=j/3*3+j%3:=by omega
   rcases h3 with e3 | e3 | e3<;>rw[e3] at he e<;>rw[e]<;>simp at he<;>subst he
   ·exact c0
   ·exact c1
   ·exact c2
  obtain⟨b,off,spot⟩:=a
  have hs:spot=none:=by simpa [Addr.add] using World.cell?_spot (hf 0 (by omega)).1
  subst hs
  exact⟨b,off,rfl,by rw[← Go.WideShapes.add_plain];exact hcell⟩
 ·obtain⟨i,hi',rfl⟩:=List.mem_map.1 hp
  exact (hf i (List.mem_range.1 hi')).2.2.2
theorem qlg {r:Reach} {b0:Nat} {v:Value} {d:DataW H} {p:List MemPlace} (hv:Value.okWide Try.prog W r b0 24 v) (h:DataW.Trod enc Try.prog W base spare held 24 v d p) :
 ∃ (u:Value) (l:List Pt),v=.agg #[u]∧Rd W 3 u l.length (qaN l)∧∀ p∈l,((Lit.int .i64 p.id).wf=true∧(Lit.int .i64 p.a).wf=true∧(Lit.int .i64 p.b).wf=true):=by
 obtain⟨cs,rfl,hsz⟩:=okWide_struct Try.underlying24 hv
 obtain⟨fuel,hf⟩:=h
 obtain⟨y0,n,_,hlen,h0⟩:=trod_struct1 Try.underlying24 hf
 obtain⟨u,l,hc,hr,hb⟩:=qkz h0
 refine⟨u,l,?_,hr,hb⟩
 rw[qo6] at hc
 have h1:cs.size=1:=hsz.trans qiD
 obtain⟨c0,rfl⟩:∃ c0,cs=#[c0]:=by
  obtain⟨L⟩:=cs
  match L,h1 with
  | [c0],_=>exact⟨c0,rfl⟩
 simp[Value.cells] at hc
 rw[hc]
end
def inB (u:Value):Bl:=⟨fun _=>none,fun b=>if b=0 then some u else none⟩
theorem qfK:∀ (l:List Pt) (v:Value),v∈qaN l→v.oneCell'=true
 | [],_,h=>by simp[qaN] at h
 | p::r,v,h=>by
  simp only[qaN,List.mem_cons] at h
  rcases h with rfl | rfl | rfl | h
  ·rfl
  ·rfl
  ·rfl
  ·exact qfK r v h
theorem qpx {W:World} {u:Value} {l:List Pt} (h:Rd W 3 u l.length (qaN l)):HRel W 1 (inB u) [(0,0,qai l)] W where
 gr:=Gr.refl W
 live:=fun b r h=>by cases h
 inj:=fun b c r h=>by cases h
 new:=fun b r _ h=>by cases h
 sep:=fun b r h=>by cases h
 cells:=fun b o sv hl hs=>by
  simp only[qac] at hl
  cases hc:(Nat.beq 0 b&&Nat.beq 0 o)<;>rw[hc] at hl
  ·cases hl
  ·cases hl;cases hs
 rows:=fun b o e es n xs hl=>by
  simp only[qac] at hl
  cases hc:(Nat.beq 0 b&&Nat.beq 0 o)<;>rw[hc] at hl
  ·cases hl
  ·cases hl
   rw[Bool.and_eq_true] at hc
   have hb:0=b:=Nat.eq_of_beq_eq_true hc.1
   subst hb
   exact⟨u,rfl,h,qfK l,fun _ hx=>h.lt hx,fun h=>by omega,fun h=>by omega⟩
 rinj:=fun b o e es n xs c o' e' es' n' xs' u v hl hl' h1 h2=>by
  simp only[qac] at hl
  cases hc:(Nat.beq 0 b&&Nat.beq 0 o)<;>rw[hc] at hl
  ·cases hl
  ·rw[Bool.and_eq_true] at hc
   have hb:0=b:=Nat.eq_of_beq_eq_true hc.1
   omega
 maps:=fun b o xs hl=>(ql7 (by rfl) hl).elim
theorem qqr (u:Value):(inB u).dom 1:=fun b hb=>⟨rfl,if_neg (by omega)⟩
theorem qpE {W:World} {u:Value} {l:List Pt} (h:Rd W 3 u l.length (qaN l)):SV.is (inB u) (qaD 0 l) (.agg #[u]):=by
 obtain⟨_,a,c,hu,_⟩:=h
 exact⟨[u],⟨⟨rfl,a,c,hu⟩,tI⟩,rfl⟩
theorem qrd {W:World} {u:Value} {l:List Pt} {f:FuncId} {vs:List Value} (h:Fn f 1 (qaD 0 l::vs.map .pv) [(0,0,qai l)] (.pv (.bool true)) 0 []) (hr:Rd W 3 u l.length (qaN l)) :
 Calls Try.prog f (.agg #[u]::vs).toArray W fun e W'=>e=.returned (.bool true)∧Gr W W':=by
 have hvs:∀ vs:List Value,SV.isl (inB u) (vs.map .pv) vs:=by
  intro vs
  induction vs with
  | nil=>exact tI
  | cons v r ih=>exact⟨rfl,ih⟩
 refine (h W (inB u) (.agg #[u]::vs) (qpx hr) (qqr u) ⟨qpE hr,hvs vs⟩).mono fun e W' ⟨v,β',he,_,hx,hh,_⟩=>?_
 cases hx
 exact⟨he,hh.gr⟩
end Go.Proofs.Ytgbmdijodlfcaaa
