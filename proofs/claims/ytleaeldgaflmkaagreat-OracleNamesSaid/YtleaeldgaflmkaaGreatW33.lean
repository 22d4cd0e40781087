/-
  Joined: Py, Fa, Fe, Fq, Fj, Fd, Fb, Fc, Vc, Vh. Conditions: none.
-/
import Derived.Test.YtleaeldgaflmkaaGreatW32
import Derived.Test.YtleaeldgaflmkaaGreatW30
import Derived.Test.YtleaeldgaflmkaaGreatW25
import Derived.ProofKit
import Derived.OpenShut
import Derived.Lib.SmallJoins
import Derived.Deep.Slices
import Derived.Deep.Strs
import Derived.Deep.Fields
import Derived.Carry
import Derived.Test.YtleaeldgaflmkaaGreatW31
namespace Go.Proofs.YtleaeldgaflmkaaGreat
set_option maxRecDepth 100000
open Go.RowKit
theorem qqN {s d:Int} (hs:s.natAbs<340282366920938463463374607431768211456) (hd:I64 d) (d0:0<d):∃ N D E,IsRes s d N D E∧Pure Tryz.prog 128 #[qb2 s,.int .i64 d] (.tuple #[qaa N D,.int .i64 E]):=by
 unfold I64 at hd
 obtain⟨dn,rfl⟩:∃ n:Nat,d=n:=⟨d.natAbs,by omega⟩
 obtain⟨g,hg⟩:∃ g,g=Nat.gcd dn (s.natAbs%dn):=⟨_,rfl⟩
 have hg2:g=Nat.gcd s.natAbs dn:=by rw[hg,Nat.gcd_comm dn (s.natAbs%dn),← Nat.gcd_rec,Nat.gcd_comm]
 have g0:0<g:=hg▸Nat.gcd_pos_of_pos_left _ (by omega)
 have gl:g≤dn:=hg▸Nat.gcd_le_left _ (by omega)
 have ml:s.natAbs%dn<dn:=Nat.mod_lt _ (by omega)
 have q1:=qeu (decide (s<0)) s.natAbs dn hs (by omega) (by omega)
 have q2:=qeu (decide (s<0)) s.natAbs g hs g0 (by omega)
 have gk:=qbu dn (s.natAbs%dn) g (by omega) (by omega) hg
 obtain⟨x,hx⟩:∃ x,x=s.natAbs/g:=⟨_,rfl⟩
 obtain⟨y,hy⟩:∃ y,y=dn/g:=⟨_,rfl⟩
 have ax:s.natAbs=g*x:=by rw[hx,hg2];exact (Nat.mul_div_cancel' (Nat.gcd_dvd_left _ _)).symm
 have bY:dn=g*y:=by rw[hy,hg2];exact (Nat.mul_div_cancel' (Nat.gcd_dvd_right _ _)).symm
 have hxy:Nat.gcd x y=1:=by rw[hx,hy,hg2];exact Nat.gcd_div_gcd_div_gcd_of_pos_right (by omega)
 have y0:0<y:=by
  rcases Nat.eq_zero_or_pos y with e | e
  ·rw[e,Nat.mul_zero] at bY;omega
  ·exact e
 have ly:=Nat.div_le_self dn g
 rw[← hy] at ly
 have md:=qbh (decide (s<0)) false false x y
 rw[qgX (x:=y) (by omega)] at md
 have q3:=qrg (x:=dn) (y:=g) (by omega)
 rw[← hy] at q3
 rw[← hx] at q2
 refine⟨_,_,_,?_,qnh (qiI (by omega) (by omega)) q1 gk q2 (by omega) q3 md⟩
 have cx:(x:Int)*((g*y:Nat):Int)=((g*x:Nat):Int)*(y:Int):=by rw[← Int.natCast_mul,← Int.natCast_mul];congr 1;rw[Nat.mul_left_comm,Nat.mul_assoc]
 have sU:¬ (y:Int)<0:=by omega
 by_cases sg:s<0
 ·have x0:0<x:=by
   rcases Nat.eq_zero_or_pos x with e | e
   ·rw[e,Nat.mul_zero] at ax;omega
   ·exact e
  have:=qcx (p:=s) (q:=(dn:Int)) (T:=-(x:Int)) (U:=(y:Int)) (by omega) (by omega) (by rw[Int.natAbs_neg,Int.natAbs_natCast,Int.natAbs_natCast];exact hxy) (by
   rw[show s = -((g*x:Nat):Int) by omega,bY,Int.neg_mul,Int.neg_mul,cx])
  rw[Int.natAbs_neg,Int.natAbs_natCast,Int.natAbs_natCast,dt (show -(x:Int)<0 by omega),df sU,qfp (U:=y) (fun h=>by simp only[Bool.and_eq_true] at h;simpa [qaJ] using h.2)] at this
  rw[dt sg]
  exact this
 ·have:=qcx (p:=s) (q:=(dn:Int)) (T:=(x:Int)) (U:=(y:Int)) (by omega) (by omega) (by rw[Int.natAbs_natCast,Int.natAbs_natCast];exact hxy) (by
   rw[show s=((g*x:Nat):Int) by omega,bY,cx])
  rw[Int.natAbs_natCast,Int.natAbs_natCast,df (show ¬ (x:Int)<0 by omega),df sU,qfp (U:=y) (fun h=>by simp only[Bool.and_eq_true] at h;simpa [qaJ] using h.2)] at this
  rw[df sg]
  exact this
theorem qt5 {pi pa pb n d:Int} (hn:I64 n) (hd:I64 d) (hp:okP pi pa pb=true) (ht:okB n d=true) :
 ∃ N D E,IsRes (pa*d+pb*n) d N D E∧Pure Tryz.prog 105 #[qab pi pa pb,qaa n d] (.tuple #[qaa N D,iV E]):=by
 have hp':=qbk.1 hp
 have d1:=qaz ht
 have c1:=qaW hp
 have c2:=qlO hn hd ht
 have iA:I64 pa:=by unfold I64;omega
 have iB:I64 pb:=by unfold I64;omega
 have i1:I64 1:=by unfold I64;omega
 have oB:okB pb 1=true:=qhV (by omega)
 have oA:okB pa 1=true:=qhV (by omega)
 have mr:=qts (a:=pb) (b:=1) (c:=n) (d:=d) oB ht
 have hm:=qoZ iB i1 hn hd oB ht
 generalize muN pb 1 n d=N1 at *
 generalize muD pb 1 n d=D1 at *
 generalize qf5 (muF pb 1 n d)=E1 at *
 rw[Int.one_mul] at mr
 rcases mr with ⟨rfl,k1,j1,j2,e1⟩ | ⟨rfl,rfl,rfl,_⟩
 ·have D0:=qaz k1
  have hadd:=qjC iA i1 j1 j2 oA k1
  have hres:=(qiW oA k1).congr (p':=pa*d+pb*n) (q':=d) (by omega) (by omega) (by
   rw[Int.one_mul,Int.mul_one,Int.add_mul,Int.add_mul,e1,Int.mul_right_comm pa D1 d])
  exact⟨_,_,_,hres,qsT c1 c2 hm hadd⟩
 ·have p1:=qaU pa d iA hd
  have p2:=qaU pb n iB hn
  have b1:(pa*d).natAbs≤1048576*9223372036854775808:=by rw[Int.natAbs_mul];unfold I64 at hd;exact Nat.mul_le_mul (by omega) (by omega)
  have b2:(pb*n).natAbs≤1048576*9223372036854775808:=by rw[Int.natAbs_mul];unfold I64 at hn;exact Nat.mul_le_mul (by omega) (by omega)
  have p3:=qff (pa*d) (pb*n) (by omega) (by omega)
  obtain⟨N,D,E,hr,ho⟩:=qqN (s:=pa*d+pb*n) (d:=d) (by omega) hd (by omega)
  exact⟨N,D,E,hr,qpi c1 c2 hm p1 p2 p3 ho⟩
end Go.Proofs.YtleaeldgaflmkaaGreat

namespace Go.Proofs.YtleaeldgaflmkaaGreat
set_option maxRecDepth 100000
open Go.RowKit
structure Pt where
 id:Int
 a:Int
 b:Int
abbrev ptV (p:Pt):Value:=qab p.id p.a p.b
def qay:List Pt→List Value
 | []=>[]
 | p::r=>iV p.id::iV p.a::iV p.b::qay r
theorem qbv:∀ (a b:List Pt),qay (a++b)=qay a++qay b
 | [],_=>rfl
 | p::r,b=>by simp[qay,qbv r b]
theorem qe0:∀ (l:List Pt),(qay l).length=l.length*3
 | []=>rfl
 | p::r=>by simp[qay,qe0 r];omega
theorem qg4:∀ {l:List Pt} {k:Nat} {p:Pt},l[k]?=some p→(qay l)[k*3]?=some (iV p.id)∧(qay l)[k*3+1]?=some (iV p.a)∧(qay l)[k*3+2]?=some (iV p.b)
 | [],k,p,h=>by simp at h
 | q::r,0,p,h=>by simp at h;subst h;exact⟨rfl,rfl,rfl⟩
 | q::r,k+1,p,h=>by
  have:=qg4 (l:=r) (k:=k) (p:=p) (by simpa using h)
  rw[show (k+1)*3=k*3+1+1+1 by omega]
  exact this
theorem qa4 {l:List Pt} {k:Nat} {p:Pt} (h:l[k]?=some p):qes (qay l) (0*3+k*3) [iV p.id,iV p.a,iV p.b]:=by
 obtain⟨h1,h2,h3⟩:=qg4 h
 intro j v hj
 rw[show 0*3+k*3+j=k*3+j by omega]
 match j,hj with
 | 0,hj=>cases hj;exact h1
 | 1,hj=>cases hj;exact h2
 | 2,hj=>cases hj;exact h3
 | j+3,hj=>simp at hj
theorem qb5 {l:List Pt} {k:Nat} {p:Pt} (h:l[k]?=some p):qes (qay l) (0*3+k*3) [iV p.id]:=by
 intro j v hj
 rw[show 0*3+k*3+j=k*3+j by omega]
 match j,hj with
 | 0,hj=>cases hj;exact (qg4 h).1
 | j+1,hj=>simp at hj
theorem RunsL.rounds {P:Program} {lo fr:Nat} {c:Code} {n nb:Nat} (tm:Nat→List (Nat×SV)) (hp:Nat→List (Nat×Nat×SV)) {e:Exit} {tm2:TmL} {hp2:HpL} {N:Nat} :
 ∀ (d i:Nat),i+d=N→(∀ j,i≤j→j<N→RunsL P lo fr c n nb (tm (j+1)) (hp (j+1)) e tm2 hp2→RunsL P lo fr c n nb (tm j) (hp j) e tm2 hp2)→RunsL P lo fr c n nb (tm N) (hp N) e tm2 hp2→RunsL P lo fr c n nb (tm i) (hp i) e tm2 hp2
 | 0,i,h,_,last=>by
  have:i=N:=by omega
  subst this;exact last
 | d+1,i,h,step,last=>step i (Nat.le_refl i) (by omega) (RunsL.rounds tm hp d (i+1) (by omega) (fun j h1 h2=>step j (by omega) h2) last)
abbrev qad (l:List Pt):SV:=.row 34 3 l.length (qay l)
abbrev qaq (b:Nat) (l:List Pt):SV:=.ag [.ls b l.length]
theorem qav {k:Nat} (h:k≤1000000):iV (IntKind.i64.wrap ((k:Int)+1))=iV ((k+1:Nat):Int):=by rw[qah (by omega) (by omega)];rfl
theorem quG (l:List Pt):SV.ag [.ls 4 (0+l.length)]=(SV.ag [.ls 1 l.length]).ren (qaG [(1,4)]):=by rw[Nat.zero_add];rfl
theorem qjJ (l:List Pt):some (SV.row 34 3 (0+l.length) ([]++qay l))=some (qad l):=by rw[Nat.zero_add,List.nil_append]
theorem qgu (m:List Pt) (p:Pt):qay m++[iV p.id,iV p.a,iV p.b]=qay (m++[p]):=by rw[qbv];rfl
theorem qiN (b:Nat) (m:List Pt) (p:Pt):some (SV.ls b (m.length+1))=some (SV.ls b (m++[p]).length):=by rw[List.length_append];rfl
theorem qey (m:List Pt) (p:Pt):some (SV.row 34 3 (m.length+1) (qay m++[iV p.id,iV p.a,iV p.b]))=some (qad (m++[p])):=by rw[qgu,qad,List.length_append];rfl
theorem qo6 (b:Nat) (m:List Pt) (p q:Pt):some (SV.ls b (m.length+1+1))=some (SV.ls b (m++[p]++[q]).length):=by rw[List.length_append,List.length_append];rfl
theorem qnD (m:List Pt) (p q:Pt):some (SV.row 34 3 (m.length+1+1) (qay m++[iV p.id,iV p.a,iV p.b]++[iV q.id,iV q.a,iV q.b]))=some (qad (m++[p]++[q])):=by
 rw[qgu,qgu,qad,List.length_append,List.length_append];rfl
theorem qsC (b:Nat) (m:List Pt) (p:Pt):SV.tu [.ag [.ls b (m.length+1)],.one (.pv (iV 0))]=(SV.tu [.ag [.ls 1 (m++[p]).length],.one (.pv (iV 0))]).ren (qaG [(1,b)]):=by rw[List.length_append];rfl
theorem qly:∀ (l:List Pt) (k:Nat) (p:Pt),k<l.length→qay (l.set k p)=qfJ (qay l) (k*3) [iV p.id,iV p.a,iV p.b]
 | [],k,p,h=>by simp at h
 | q::r,0,p,_=>rfl
 | q::r,k+1,p,h=>by
  rw[List.set_cons_succ,qay,qly r k p (by simpa using h),show (k+1)*3=k*3+1+1+1 by omega]
  simp[qfJ,qay,Nat.add_right_comm]
theorem qtM (l:List Pt) (k:Nat) (p:Pt) (h:k<l.length):qay (l.set k p)=qfJ (qay l) (0*3+k*3) [iV p.id,iV p.a,iV p.b]:=by
 rw[Nat.zero_mul,Nat.zero_add];exact qly l k p h
theorem qwA (l:List Pt) (k:Nat) (h:k<l.length):0*3+k*3+3≤(qay l).length:=by rw[qe0];omega
theorem qvo (b:Nat) (l:List Pt) (k:Nat) (p:Pt):SV.tu [.ag [.ls b l.length],.one (.pv (iV 0))]=(SV.tu [.ag [.ls 1 (l.set k p).length],.one (.pv (iV 0))]).ren (qaG [(1,b)]):=by rw[List.length_set];rfl
theorem qpQ (l:List Pt) (k:Nat) (p:Pt):some (SV.row 34 3 l.length (qay (l.set k p)))=some (qad (l.set k p)):=by rw[qad,List.length_set]
theorem qfl:∀ (l:List Pt) (k:Nat),(qay l).drop (k*3)=qay (l.drop k)
 | l,0=>by simp
 | [],k+1=>by simp[qay]
 | p::r,k+1=>by rw[show (k+1)*3=k*3+1+1+1 by omega,List.drop_succ_cons];exact qfl r k
theorem qfm:∀ (l:List Pt) (k:Nat),(qay l).take (k*3)=qay (l.take k)
 | l,0=>by simp[qay]
 | [],k+1=>by simp[qay]
 | p::r,k+1=>by rw[show (k+1)*3=k*3+1+1+1 by omega,List.take_succ_cons];exact congrArg (fun z=>iV p.id::iV p.a::iV p.b::z) (qfm r k)
theorem qiD (l:List Pt) (k:Nat):((qay l).drop ((0+0)*3)).take (k*3)=qay (l.take k):=by rw[Nat.zero_add,qfl,qfm];rfl
theorem qih (l:List Pt) (k:Nat):((qay l).drop ((0+k)*3)).take ((l.length-k)*3)=qay (l.drop k):=by rw[Nat.zero_add,qfl,qfm,List.take_of_length_le (by simp)]
theorem qmp (l:List Pt) (k:Nat) (p:Pt) (h:k≤l.length):(l.take k++p::l.drop k).length=0+k+1+(l.length-k):=by simp;omega
theorem qvH (b:Nat) (l:List Pt) (k:Nat) (p:Pt) (h:k≤l.length):SV.tu [.ag [.ls b (0+k+1+(l.length-k))],.one (.pv (iV 0))]=(SV.tu [.ag [.ls 1 (l.take k++p::l.drop k).length],.one (.pv (iV 0))]).ren (qaG [(1,b)]):=by rw[qmp l k p h];rfl
theorem qtf (l:List Pt) (k:Nat) (p:Pt) (h:k≤l.length):some (SV.row 34 3 (0+k+1+(l.length-k)) ([]++((qay l).drop ((0+0)*3)).take (k*3)++[iV p.id,iV p.a,iV p.b]++((qay l).drop ((0+k)*3)).take ((l.length-k)*3)))=some (qad (l.take k++p::l.drop k)):=by
 rw[qiD,qih,qad,qmp l k p h,qbv];simp[qay]
theorem qjh (l:List Pt) (k:Nat) (h:k+1≤l.length):(l.take k++l.drop (k+1)).length=0+k+(l.length-(k+1)):=by simp;omega
theorem ql1 (b:Nat) (l:List Pt) (k:Nat) (h:k+1≤l.length):SV.tu [.ag [.ls b (0+k+(l.length-(k+1)))],.one (.pv (iV 0))]=(SV.tu [.ag [.ls 1 (l.take k++l.drop (k+1)).length],.one (.pv (iV 0))]).ren (qaG [(1,b)]):=by rw[qjh l k h];rfl
theorem qjI (l:List Pt) (k:Nat) (h:k+1≤l.length):some (SV.row 34 3 (0+k+(l.length-(k+1))) ([]++((qay l).drop ((0+0)*3)).take (k*3)++((qay l).drop ((0+(k+1))*3)).take ((l.length-(k+1))*3)))=some (qad (l.take k++l.drop (k+1))):=by
 rw[qiD,qih,qad,qjh l k h,qbv];simp
theorem ql7 (l:List Pt) (k:Nat) (p:Pt) (h:k+1≤l.length):(l.take k++p::l.drop (k+1)).length=0+k+1+(l.length-(k+1)):=by simp;omega
theorem qwE (b:Nat) (l:List Pt) (k:Nat) (p:Pt) (h:k+1≤l.length):SV.tu [.ag [.ls b (0+k+1+(l.length-(k+1)))],.one (.pv (iV 0))]=(SV.tu [.ag [.ls 1 (l.take k++p::l.drop (k+1)).length],.one (.pv (iV 0))]).ren (qaG [(1,b)]):=by rw[ql7 l k p h];rfl
theorem qrM (l:List Pt) (k:Nat) (p:Pt) (h:k+1≤l.length):some (SV.row 34 3 (0+k+1+(l.length-(k+1))) ([]++((qay l).drop ((0+0)*3)).take (k*3)++[iV p.id,iV p.a,iV p.b]++((qay l).drop ((0+(k+1))*3)).take ((l.length-(k+1))*3)))=some (qad (l.take k++p::l.drop (k+1))):=by
 rw[qiD,qih,qad,ql7 l k p h,qbv];simp[qay]
theorem qgo (x:Int):(x==x)=true:=by simp
def qfI (l:List Int):List Value:=l.map fun x=>iV x
theorem qwy {l:List Int} {k:Nat} {x:Int} (h:l[k]?=some x):qes (qfI l) (0*1+k*1) [iV x]:=by
 intro j v hj
 match j,hj with
 | 0,hj=>cases hj;simp[qfI,h]
 | j+1,hj=>simp at hj
theorem qz6:∀ (l:List Int) (k:Nat) (x:Int),k<l.length→qfI (l.set k x)=qfJ (qfI l) k [iV x]
 | [],k,x,h=>by simp at h
 | y::r,0,x,_=>rfl
 | y::r,k+1,x,h=>by
  have:=qz6 r k x (by simpa using h)
  simp only[qfI,List.set_cons_succ,List.map_cons] at this ⊢
  rw[this]
  simp[qfJ,Nat.add_right_comm]
theorem qqa (l:List Int) (k:Nat) (x:Int) (h:k<l.length):qfI (l.set k x)=qfJ (qfI l) (0*1+k*1) [iV x]:=by
 rw[Nat.zero_mul,Nat.zero_add,Nat.mul_one];exact qz6 l k x h
theorem qtS (l:List Int) (k:Nat) (h:k<l.length):0*1+k*1+1≤(qfI l).length:=by simp[qfI];omega
theorem qnM:∀ n:Nat,qcZ [iV 0] n=qfI (List.replicate n 0)
 | 0=>rfl
 | n+1=>by rw[qcZ,qnM n];rfl
theorem qsd (n:Nat):some (SV.row 3 1 n (qcZ [iV 0] n))=some (SV.row 3 1 n (qfI (List.replicate n 0))):=by rw[qnM]
theorem qrZ (l:List Pt):SV.ls 2 (0+l.length)=(SV.ls 1 l.length).ren (qaG [(1,2)]):=by rw[Nat.zero_add];rfl
end Go.Proofs.YtleaeldgaflmkaaGreat

namespace Go.Proofs.YtleaeldgaflmkaaGreat
set_option maxRecDepth 100000
open Go.RowKit
theorem qmm {l:List Pt} (hn:0+l.length≤1000000) :
 Fn 47 1 [qaq 0 l] [(0,0,qad l)] (.ag [.ls 1 l.length]) 1 [(1,0,qad l)]:=
 Fx [(1,4)] []
  (quG l) (Ai (qjJ l) tI) (Ai hn tI)
abbrev qxe (l:List Pt) (m:List Pt):HpL:=[(2,0,.ls 0 l.length),(3,0,.ls 1 m.length),(0,0,qad l),(1,0,qad m)]
theorem qlF {l m:List Pt} {k:Nat} {p q:Pt} (hk:l[k]?=some p) (hin:0≤(k:Int)∧(k:Int)<(l.length:Int)) (hq:m[k]?=some q) (hin2:0≤(k:Int)∧(k:Int)<(m.length:Int)) (hlt:decide ((k:Int)<(l.length:Int))=true) (hne:(!(p.id==q.id&&(p.a==q.a&&(p.b==q.b&&true))))=false) (hs:iV (IntKind.i64.wrap ((k:Int)+1))=iV (((k+1:Nat):Int))) {e:Exit} {tm2:TmL} {hp2:HpL}
 (r:Rl 2 2 49 0 31 4 ([(2,.pp 2 0),(3,.pp 3 0),(5,.pv (iV ((k+1:Nat):Int)))]) (qxe l m) e tm2 hp2):Rl 2 2 49 0 31 4 ([(2,.pp 2 0),(3,.pp 3 0),(5,.pv (iV (k:Int)))]) (qxe l m) e tm2 hp2:=
 RunsL.next [] 300 [.t true,.r (ptV p),.r (ptV q),.t false,Re hs]
  (Ro (Ai hlt (Ai hin (Ai (qa4 hk) (Ai hin2 (Ai (qa4 hq) (Ai hne (Ai hs tI)))))))) r
theorem qqj {l m:List Pt} {k:Nat} (hge:decide ((k:Int)<(l.length:Int))=false):Rl 2 2 49 0 31 4 ([(2,.pp 2 0),(3,.pp 3 0),(5,.pv (iV (k:Int)))]) (qxe l m) (.exit 0) ([]) ([]):=
 RunsL.stop [] 300 [.t false] (fun h=>by cases h)
  (Ro (Ai hge tI))
theorem qpb {l m:List Pt} (hl:(!((l.length:Int)==(m.length:Int)))=false) (r0:Rl 2 2 49 0 31 4 ([(2,.pp 2 0),(3,.pp 3 0),(5,.pv (iV ((0:Nat):Int)))]) (qxe l m) (.exit 0) ([]) ([])) :
 Fn 49 2 [qaq 0 l,qaq 1 m] [(0,0,qad l),(1,0,qad m)] (.pv (.bool true)) 0 []:=
 Fz [] [.t false,Lf r0]
  tI (Ai hl (Lo r0 [] tI))
end Go.Proofs.YtleaeldgaflmkaaGreat

namespace Go.Proofs.YtleaeldgaflmkaaGreat
set_option maxRecDepth 100000
open Go.ChangeShapes Go.WideShapes Go.ChangeAt Go.RowKit Go.Joins Go.Deep
section
variable {H:Type} {enc:TypeId×Value→H} {W:World} {base:Nat} {spare:Nat→Bool} {held:Bool}
end
theorem qh4:∀ (l:List Pt) (v:Value),v∈qay l→v.oneCell'=true
 | [],_,h=>by simp[qay] at h
 | p::r,v,h=>by
  simp only[qay,List.mem_cons] at h
  rcases h with rfl | rfl | rfl | h
  ·rfl
  ·rfl
  ·rfl
  ·exact qh4 r v h
end Go.Proofs.YtleaeldgaflmkaaGreat

namespace Go.Proofs.YtleaeldgaflmkaaGreat
set_option maxRecDepth 100000
open Go.RowKit
abbrev qqZ (l:List Pt) (p:Pt) (td:Int) (tn:Int):HpL:=[(1,0,.ls 0 l.length),(0,0,qad l),(2,0,.pv (iV p.id)),(2,1,.pv (iV p.a)),(2,2,.pv (iV p.b)),(3,0,.pv (iV tn)),(3,1,.pv (iV td))]
abbrev qw3 (k:Nat) (n:Nat):TmL:=[(3,.pp 1 0),(4,.pp 2 0),(5,.pp 3 0),(7,.pv (iV (n:Int))),(8,.pv (iV (k:Int)))]
theorem qtG {l:List Pt} {k n:Nat} {p q:Pt} {tn td:Int} (hk:l[k]?=some q) (hin:0≤(k:Int)∧(k:Int)<(l.length:Int)) (hlt:decide ((k:Int)<(l.length:Int))=true) (hne:(!(q.id==p.id))=false) (hs:iV (IntKind.i64.wrap ((k:Int)+1))=iV (((k+1:Nat):Int))) {e:Exit} {tm2:TmL} {hp2:HpL}
 (r:Rl 1 1 104 0 38 4 ([(3,.pp 1 0),(4,.pp 2 0),(5,.pp 3 0),(7,.pv (iV (n:Int))),(8,.pv (iV ((k+1:Nat):Int)))]) (qqZ l p td tn) e tm2 hp2):Rl 1 1 104 0 38 4 (qw3 k n) (qqZ l p td tn) e tm2 hp2:=
 RunsL.next [] 300 [.t true,.r (iV q.id),.t false,Re hs]
  (Ro (Ai hlt (Ai hin (Ai (qb5 hk) (Ai hne (Ai hs tI)))))) r
theorem qy1 {l:List Pt} {k n:Nat} {p q:Pt} {tn td:Int} (hk:l[k]?=some q) (hin:0≤(k:Int)∧(k:Int)<(l.length:Int)) (hlt:decide ((k:Int)<(l.length:Int))=true) (hne:(!(q.id==p.id))=true) (hl:Pure Tryz.prog 126 #[qab q.id q.a q.b,qab p.id p.a p.b,qaa tn td] (.bool false)) (hs:iV (IntKind.i64.wrap ((k:Int)+1))=iV (((k+1:Nat):Int))) {e:Exit} {tm2:TmL} {hp2:HpL}
 (r:Rl 1 1 104 0 38 4 ([(3,.pp 1 0),(4,.pp 2 0),(5,.pp 3 0),(7,.pv (iV (n:Int))),(8,.pv (iV ((k+1:Nat):Int)))]) (qqZ l p td tn) e tm2 hp2):Rl 1 1 104 0 38 4 (qw3 k n) (qqZ l p td tn) e tm2 hp2:=
 RunsL.next [] 300 [.t true,.r (iV q.id),.t true,.r (ptV q),Rf hl,Re hs]
  (Ro (Ai hlt (Ai hin (Ai (qb5 hk) (Ai hne (Ai hin (Ai (qa4 hk) (Ai hl (Ai hs tI))))))))) r
theorem qyB {l:List Pt} {k n:Nat} {p q:Pt} {tn td:Int} (hk:l[k]?=some q) (hin:0≤(k:Int)∧(k:Int)<(l.length:Int)) (hlt:decide ((k:Int)<(l.length:Int))=true) (hne:(!(q.id==p.id))=true) (hl:Pure Tryz.prog 126 #[qab q.id q.a q.b,qab p.id p.a p.b,qaa tn td] (.bool true)) (hn:iV (IntKind.i64.wrap ((n:Int)+1))=iV (((n+1:Nat):Int))) (hs:iV (IntKind.i64.wrap ((k:Int)+1))=iV (((k+1:Nat):Int))) {e:Exit} {tm2:TmL} {hp2:HpL}
 (r:Rl 1 1 104 0 38 4 ([(3,.pp 1 0),(4,.pp 2 0),(5,.pp 3 0),(7,.pv (iV ((n+1:Nat):Int))),(8,.pv (iV ((k+1:Nat):Int)))]) (qqZ l p td tn) e tm2 hp2):Rl 1 1 104 0 38 4 (qw3 k n) (qqZ l p td tn) e tm2 hp2:=
 RunsL.next [] 300 [.t true,.r (iV q.id),.t true,.r (ptV q),Rf hl,Re hn,Re hs]
  (Ro (Ai hlt (Ai hin (Ai (qb5 hk) (Ai hne (Ai hin (Ai (qa4 hk) (Ai hl (Ai hn (Ai hs tI)))))))))) r
theorem qvE {l:List Pt} {k n:Nat} {p:Pt} {tn td:Int} (hge:decide ((k:Int)<(l.length:Int))=false):Rl 1 1 104 0 38 4 (qw3 k n) (qqZ l p td tn) (.exit 0) ([(7,.pv (iV (n:Int)))]) ([]):=
 RunsL.stop [] 300 [.t false] (fun h=>by cases h)
  (Ro (Ai hge tI))
theorem qsM {l:List Pt} {n:Nat} {p:Pt} {tn td:Int} (r0:Rl 1 1 104 0 38 4 ([(3,.pp 1 0),(4,.pp 2 0),(5,.pp 3 0),(7,.pv (iV ((0:Nat):Int))),(8,.pv (iV ((0:Nat):Int)))]) (qqZ l p td tn) (.exit 0) ([(7,.pv (iV (n:Int)))]) ([])) :
 Fn 104 1 [qaq 0 l,.pv (ptV p),.pv (qaa tn td)] [(0,0,qad l)] (.pv (iV (n:Int))) 0 []:=
 Fz [] [Lf r0]
  tI (Lo r0 [] tI)
abbrev qw5 (g:List Int) (l:List Pt) (td:Int) (tn:Int):HpL:=[(1,0,.ls 0 l.length),(0,0,qad l),(2,0,.pv (iV tn)),(2,1,.pv (iV td)),(3,0,.row 3 1 l.length (qfI g))]
theorem qr0 {l:List Pt} {g:List Int} {k n:Nat} {p:Pt} {tn td:Int} (hk:l[k]?=some p) (hin:0≤(k:Int)∧(k:Int)<(l.length:Int)) (hg:n<g.length) (hn:0≤(n:Int)∧(n:Int)<(l.length:Int)) (hlt:decide ((k:Int)<(l.length:Int))=true) (hr:Fn 104 1 [qaq 0 l,.pv (ptV p),.pv (qaa tn td)] [(0,0,qad l)] (.pv (iV (n:Int))) 0 []) (hs:iV (IntKind.i64.wrap ((k:Int)+1))=iV (((k+1:Nat):Int))) {e:Exit} {tm2:TmL} {hp2:HpL}
 (r:Rl 1 1 74 0 35 4 ([(2,.pp 1 0),(3,.pp 2 0),(5,.ls 3 l.length),(6,.pv (iV ((k+1:Nat):Int)))]) ([(1,0,.ls 0 l.length),(0,0,qad l),(2,0,.pv (iV tn)),(2,1,.pv (iV td)),(3,0,.row 3 1 l.length (qfI (g.set n p.id)))]) e tm2 hp2):Rl 1 1 74 0 35 4 ([(2,.pp 1 0),(3,.pp 2 0),(5,.ls 3 l.length),(6,.pv (iV (k:Int)))]) (qw5 g l td tn) e tm2 hp2:=
 RunsL.next [] 300 [.t true,.r (ptV p),Cf hr [0],.r (iV p.id),.w (qfI (g.set n p.id)),Re hs]
  (Ro (Ai hlt (Ai hin (Ai (qa4 hk) (Co hr [0] 4 (Ai hin (Ai (qb5 hk) (Ai hn (Ai (qqa g n p.id hg) (Ai (qtS g n hg) (Ai hs tI))))))))))) r
theorem qwL {l:List Pt} {g:List Int} {k:Nat} {tn td:Int} (hge:decide ((k:Int)<(l.length:Int))=false):Rl 1 1 74 0 35 4 ([(2,.pp 1 0),(3,.pp 2 0),(5,.ls 3 l.length),(6,.pv (iV (k:Int)))]) (qw5 g l td tn) (.exit 0) ([(5,.ls 3 l.length)]) (qw5 g l td tn):=
 RunsL.stop [] 300 [.t false] (fun h=>by cases h)
  (Ro (Ai hge tI))
theorem qsB {l:List Pt} {g:List Int} {tn td:Int} (hn0:0≤(l.length:Int)) (hn1:(l.length:Int)≤1000000) (r0:Rl 1 1 74 0 35 4 ([(2,.pp 1 0),(3,.pp 2 0),(5,.ls 3 l.length),(6,.pv (iV ((0:Nat):Int)))]) ([(1,0,.ls 0 l.length),(0,0,qad l),(2,0,.pv (iV tn)),(2,1,.pv (iV td)),(3,0,.row 3 1 l.length (qfI (List.replicate l.length (0:Int))))]) (.exit 0) ([(5,.ls 3 l.length)]) (qw5 g l td tn)) :
 Fn 74 1 [qaq 0 l,.pv (qaa tn td)] [(0,0,qad l)] (.ls 1 l.length) 1 [(1,0,.row 3 1 l.length (qfI g))]:=
 Fz [(1,3)] [Lf r0]
  (qaH (qaG [(1,3)]) [(1,0,.row 3 1 l.length (qfI g))]) (Ai hn0 (Ai (Eq.refl (l.length:Int)) (Ai hn1 (Ai (Lt r0 []) (Ai (Ai (Er (SV.ls 0 l.length)) (Ai (Er (qad l)) (Ai (Er (SV.pv (iV tn))) (Ai (Er (SV.pv (iV td))) (Ai (qsd l.length) tI))))) (Ai r0 tI))))))
end Go.Proofs.YtleaeldgaflmkaaGreat

namespace Go.Proofs.YtleaeldgaflmkaaGreat
set_option maxRecDepth 100000
open Go.RowKit
theorem qnx {l:List Pt} {k:Nat} {p:Pt} {id:Int} (hk:l[k]?=some p) (hin:0≤(k:Int)∧(k:Int)<(l.length:Int)) (hlt:decide ((k:Int)<(l.length:Int))=true) (he:(p.id==id)=false) (hs:iV (IntKind.i64.wrap ((k:Int)+1))=iV (((k+1:Nat):Int))) {e:Exit} {tm2:TmL} {hp2:HpL}
 (r:Rl 1 1 76 0 22 2 ([(1,.pv (iV id)),(2,.pp 1 0),(5,.pv (iV ((k+1:Nat):Int)))]) ([(1,0,.ls 0 l.length),(0,0,qad l)]) e tm2 hp2):Rl 1 1 76 0 22 2 ([(1,.pv (iV id)),(2,.pp 1 0),(5,.pv (iV (k:Int)))]) ([(1,0,.ls 0 l.length),(0,0,qad l)]) e tm2 hp2:=
 RunsL.next [] 300 [.t true,.r (iV p.id),.t false,Re hs]
  (Ro (Ai hlt (Ai hin (Ai (qb5 hk) (Ai he (Ai hs tI)))))) r
theorem qvi {l:List Pt} {k:Nat} {p:Pt} {id:Int} (hk:l[k]?=some p) (hin:0≤(k:Int)∧(k:Int)<(l.length:Int)) (hlt:decide ((k:Int)<(l.length:Int))=true) (he:(p.id==id)=true):Rl 1 1 76 0 22 2 ([(1,.pv (iV id)),(2,.pp 1 0),(5,.pv (iV (k:Int)))]) ([(1,0,.ls 0 l.length),(0,0,qad l)]) (.ret) ([(4,.pv (iV (k:Int)))]) ([]):=
 RunsL.stop [] 300 [.t true,.r (iV p.id),.t true] (fun h=>by cases h)
  (Ro (Ai hlt (Ai hin (Ai (qb5 hk) (Ai he tI)))))
theorem quR {l:List Pt} {k:Nat} {id:Int} (hge:decide ((k:Int)<(l.length:Int))=false):Rl 1 1 76 0 22 2 ([(1,.pv (iV id)),(2,.pp 1 0),(5,.pv (iV (k:Int)))]) ([(1,0,.ls 0 l.length),(0,0,qad l)]) (.exit 0) ([]) ([]):=
 RunsL.stop [] 300 [.t false] (fun h=>by cases h)
  (Ro (Ai hge tI))
theorem qxV {l:List Pt} {id:Int} (r0:Rl 1 1 76 0 22 2 ([(1,.pv (iV id)),(2,.pp 1 0),(5,.pv (iV ((0:Nat):Int)))]) ([(1,0,.ls 0 l.length),(0,0,qad l)]) (.exit 0) ([]) ([])) :
 Fn 76 1 [qaq 0 l,.pv (iV (id))] [(0,0,qad l)] (.pv (iV (-1))) 0 []:=
 Fz [] [Lf r0]
  tI (Lo r0 [] tI)
theorem quV {l:List Pt} {k:Nat} {id:Int} (r0:Rl 1 1 76 0 22 2 ([(1,.pv (iV id)),(2,.pp 1 0),(5,.pv (iV ((0:Nat):Int)))]) ([(1,0,.ls 0 l.length),(0,0,qad l)]) (.ret) ([(4,.pv (iV (k:Int)))]) ([])) :
 Fn 76 1 [qaq 0 l,.pv (iV (id))] [(0,0,qad l)] (.pv (iV (k:Int))) 0 []:=
 Fz [] [Lf r0]
  tI (Lo r0 [] tI)
theorem qt1 {l:List Pt} {pi pa pb:Int} {e:Int} (hc:Fn 44 1 [qaq 0 l] [(0,0,qad l)] (.pv (iV (e))) 0 []) (he:(e !=0)=true) :
 Fn 116 1 [qaq 0 l,.pv (qab pi pa pb)] [(0,0,qad l)] (.pv (iV (e))) 0 []:=
 Fz [] [Cf hc [0],.t true]
  tI (Co hc [0] 3 (Ai he tI))
theorem qqY {l:List Pt} {pi pa pb:Int} {e:Int} (hc:Fn 44 1 [qaq 0 l] [(0,0,qad l)] (.pv (iV (0))) 0 []) (hp:Pure Tryz.prog 60 #[qab pi pa pb] (iV (e))) :
 Fn 116 1 [qaq 0 l,.pv (qab pi pa pb)] [(0,0,qad l)] (.pv (iV (e))) 0 []:=
 Fz [] [Cf hc [0],.k,Rf hp]
  tI (Co hc [0] 3 (Ai hp tI))
theorem qtK {l:List Pt} {tn td:Int} {e:Int} (hc:Fn 44 1 [qaq 0 l] [(0,0,qad l)] (.pv (iV (e))) 0 []) (he:(e !=0)=true) :
 Fn 55 1 [qaq 0 l,.pv (qaa tn td)] [(0,0,qad l)] (.pv (iV (e))) 0 []:=
 Fz [] [Cf hc [0],.t true]
  tI (Co hc [0] 3 (Ai he tI))
theorem qrt {l:List Pt} {tn td:Int} {e:Int} (hc:Fn 44 1 [qaq 0 l] [(0,0,qad l)] (.pv (iV (0))) 0 []) (ht:Pure Tryz.prog 61 #[qaa tn td] (iV (e))) :
 Fn 55 1 [qaq 0 l,.pv (qaa tn td)] [(0,0,qad l)] (.pv (iV (e))) 0 []:=
 Fz [] [Cf hc [0],.k,Rf ht]
  tI (Co hc [0] 3 (Ai ht tI))
end Go.Proofs.YtleaeldgaflmkaaGreat

namespace Go.Proofs.YtleaeldgaflmkaaGreat
set_option maxRecDepth 100000
open Go.RowKit
theorem qjS {l:List Pt} {k:Nat} {p:Pt} (hk:l[k]?=some p) (hin:0≤(k:Int)∧(k:Int)<(l.length:Int)) (hlt:decide ((k:Int)<(l.length:Int))=true) (hc:Pure Tryz.prog 30 #[qab p.id p.a p.b] (iV (0))) (hs:iV (IntKind.i64.wrap ((k:Int)+1))=iV (((k+1:Nat):Int))) {e:Exit} {tm2:TmL} {hp2:HpL}
 (r:Rl 1 1 50 0 44 2 ([(1,.pp 1 0),(3,.pv (iV ((k+1:Nat):Int)))]) ([(1,0,.ls 0 l.length),(0,0,qad l)]) e tm2 hp2):Rl 1 1 50 0 44 2 ([(1,.pp 1 0),(3,.pv (iV (k:Int)))]) ([(1,0,.ls 0 l.length),(0,0,qad l)]) e tm2 hp2:=
 RunsL.next [] 300 [.t true,.r (ptV p),Rf hc,.k,Re hs]
  (Ro (Ai hlt (Ai hin (Ai (qa4 hk) (Ai hc (Ai hs tI)))))) r
theorem qsn {l:List Pt} {k:Nat} {p:Pt} (hk:l[k]?=some p) (hin:0≤(k:Int)∧(k:Int)<(l.length:Int)) (hlt:decide ((k:Int)<(l.length:Int))=true) (hc:Pure Tryz.prog 30 #[qab p.id p.a p.b] (iV (8))):Rl 1 1 50 0 44 2 ([(1,.pp 1 0),(3,.pv (iV (k:Int)))]) ([(1,0,.ls 0 l.length),(0,0,qad l)]) (.ret) ([(2,.pv (iV 8))]) ([]):=
 RunsL.stop [] 300 [.t true,.r (ptV p),Rf hc,.k] (fun h=>by cases h)
  (Ro (Ai hlt (Ai hin (Ai (qa4 hk) (Ai hc tI)))))
theorem qsa {l:List Pt} {k:Nat} (hge:decide ((k:Int)<(l.length:Int))=false):Rl 1 1 50 0 44 2 ([(1,.pp 1 0),(3,.pv (iV (k:Int)))]) ([(1,0,.ls 0 l.length),(0,0,qad l)]) (.exit 0) ([(1,.pp 1 0)]) ([(1,0,.ls 0 l.length),(0,0,qad l)]):=
 RunsL.stop [] 300 [.t false] (fun h=>by cases h)
  (Ro (Ai hge tI))
theorem qi7 {l:List Pt} {k:Nat} {p q:Pt} (hq:l[k]?=some q) (hk:l[k+1]?=some p) (hi0:0≤(k:Int)∧(k:Int)<(l.length:Int)) (hi1:0≤((k+1:Nat):Int)∧((k+1:Nat):Int)<(l.length:Int)) (hlt:decide (((k+1:Nat):Int)<(l.length:Int))=true) (hm:iV (IntKind.i64.wrap (((k+1:Nat):Int)-1))=iV (k:Int)) (hg:decide (q.id≥p.id)=false) (hs:iV (IntKind.i64.wrap (((k+1:Nat):Int)+1))=iV (((k+1+1:Nat):Int))) {e:Exit} {tm2:TmL} {hp2:HpL}
 (r:Rl 1 1 50 1 44 2 ([(1,.pp 1 0),(4,.pv (iV ((k+1+1:Nat):Int)))]) ([(1,0,.ls 0 l.length),(0,0,qad l)]) e tm2 hp2):Rl 1 1 50 1 44 2 ([(1,.pp 1 0),(4,.pv (iV ((k+1:Nat):Int)))]) ([(1,0,.ls 0 l.length),(0,0,qad l)]) e tm2 hp2:=
 RunsL.next [] 300 [.t true,.r (iV (k:Int)),.r (iV q.id),.r (iV p.id),.t false,.r (iV (((k+1+1:Nat):Int)))]
  (Ro (Ai hlt (Ai hm (Ai hi0 (Ai (qb5 hq) (Ai hi1 (Ai (qb5 hk) (Ai hg (Ai hs tI))))))))) r
theorem qsN {l:List Pt} {k:Nat} {p q:Pt} (hq:l[k]?=some q) (hk:l[k+1]?=some p) (hi0:0≤(k:Int)∧(k:Int)<(l.length:Int)) (hi1:0≤((k+1:Nat):Int)∧((k+1:Nat):Int)<(l.length:Int)) (hlt:decide (((k+1:Nat):Int)<(l.length:Int))=true) (hm:iV (IntKind.i64.wrap (((k+1:Nat):Int)-1))=iV (k:Int)) (hg:decide (q.id≥p.id)=true):Rl 1 1 50 1 44 2 ([(1,.pp 1 0),(4,.pv (iV ((k+1:Nat):Int)))]) ([(1,0,.ls 0 l.length),(0,0,qad l)]) (.ret) ([(2,.pv (iV 32))]) ([]):=
 RunsL.stop [] 300 [.t true,.r (iV (k:Int)),.r (iV q.id),.r (iV p.id),.t true] (fun h=>by cases h)
  (Ro (Ai hlt (Ai hm (Ai hi0 (Ai (qb5 hq) (Ai hi1 (Ai (qb5 hk) (Ai hg tI))))))))
theorem qol {l:List Pt} {k:Nat} (hge:decide (((k:Nat):Int)<(l.length:Int))=false):Rl 1 1 50 1 44 2 ([(1,.pp 1 0),(4,.pv (iV ((k:Nat):Int)))]) ([(1,0,.ls 0 l.length),(0,0,qad l)]) (.exit 2) ([]) ([]):=
 RunsL.stop [] 300 [.t false] (fun h=>by cases h)
  (Ro (Ai hge tI))
theorem qta {l:List Pt} (h64:decide ((l.length:Int)>64)=true) :
 Fn 50 1 [qaq 0 l] [(0,0,qad l)] (.pv (iV 4)) 0 []:=
 Fz [] [.t true]
  tI (Ai h64 tI)
theorem qwt {l:List Pt} (h64:decide ((l.length:Int)>64)=false) (r0:Rl 1 1 50 0 44 2 ([(1,.pp 1 0),(3,.pv (iV (((0:Nat):Int):Int)))]) ([(1,0,.ls 0 l.length),(0,0,qad l)]) (.ret) ([(2,.pv (iV 8))]) ([])) :
 Fn 50 1 [qaq 0 l] [(0,0,qad l)] (.pv (iV 8)) 0 []:=
 Fz [] [.t false,Lf r0]
  tI (Ai h64 (Lo r0 [] tI))
abbrev qzW (l:List Pt):Prop:=Rl 1 1 50 0 44 2 ([(1,.pp 1 0),(3,.pv (iV (((0:Nat):Int):Int)))]) ([(1,0,.ls 0 l.length),(0,0,qad l)]) (.exit 0) ([(1,.pp 1 0)]) ([(1,0,.ls 0 l.length),(0,0,qad l)])
theorem qwX {l:List Pt} (h64:decide ((l.length:Int)>64)=false) (r0:qzW l) (r1:Rl 1 1 50 1 44 2 ([(1,.pp 1 0),(4,.pv (iV (((0+1:Nat):Int):Int)))]) ([(1,0,.ls 0 l.length),(0,0,qad l)]) (.ret) ([(2,.pv (iV 32))]) ([])) :
 Fn 50 1 [qaq 0 l] [(0,0,qad l)] (.pv (iV 32)) 0 []:=
 Fz [] [.t false,Lf r0,Lf r1]
  tI (Ai h64 (Lo r0 [] (Lo r1 [] tI)))
theorem qyl {l:List Pt} (h64:decide ((l.length:Int)>64)=false) (r0:qzW l) (r1:Rl 1 1 50 1 44 2 ([(1,.pp 1 0),(4,.pv (iV (((0+1:Nat):Int):Int)))]) ([(1,0,.ls 0 l.length),(0,0,qad l)]) (.exit 2) ([]) ([])) :
 Fn 50 1 [qaq 0 l] [(0,0,qad l)] (.pv (iV 0)) 0 []:=
 Fz [] [.t false,Lf r0,Lf r1]
  tI (Ai h64 (Lo r0 [] (Lo r1 [] tI)))
end Go.Proofs.YtleaeldgaflmkaaGreat

namespace Go.Proofs.YtleaeldgaflmkaaGreat
set_option maxRecDepth 100000
open Go.RowKit
abbrev qy3 (k:Nat) (l:List Pt):TmL:=[(1,.pp 1 0),(12,.ls 0 l.length),(13,.pv (iV (l.length:Int))),(14,.pv (iV (k:Int)))]
theorem qjs {l:List Pt} {k:Nat} {p:Pt} (hk:l[k]?=some p) (hin:0≤(k:Int)∧(k:Int)<(l.length:Int)) (hlt:decide ((k:Int)<(l.length:Int))=true) (hc:Pure Tryz.prog 60 #[qab p.id p.a p.b] (iV (0))) (hs:iV (IntKind.i64.wrap ((k:Int)+1))=iV (((k+1:Nat):Int))) {e:Exit} {tm2:TmL} {hp2:HpL}
 (r:Rl 1 1 44 0 45 2 ([(1,.pp 1 0),(12,.ls 0 l.length),(13,.pv (iV (l.length:Int))),(14,.pv (iV ((k+1:Nat):Int)))]) ([(1,0,.ls 0 l.length),(0,0,qad l)]) e tm2 hp2):Rl 1 1 44 0 45 2 (qy3 k l) ([(1,0,.ls 0 l.length),(0,0,qad l)]) e tm2 hp2:=
 RunsL.next [] 300 [.t true,.r (ptV p),Rf hc,.k,Re hs]
  (Ro (Ai hlt (Ai hin (Ai (qa4 hk) (Ai hc (Ai hs tI)))))) r
theorem qtP {l:List Pt} {k:Nat} {p:Pt} (hk:l[k]?=some p) (hin:0≤(k:Int)∧(k:Int)<(l.length:Int)) (hlt:decide ((k:Int)<(l.length:Int))=true) (hc:Pure Tryz.prog 60 #[qab p.id p.a p.b] (iV (8))):Rl 1 1 44 0 45 2 (qy3 k l) ([(1,0,.ls 0 l.length),(0,0,qad l)]) (.ret) ([(2,.pv (iV 8))]) ([]):=
 RunsL.stop [] 300 [.t true,.r (ptV p),Rf hc,.k] (fun h=>by cases h)
  (Ro (Ai hlt (Ai hin (Ai (qa4 hk) (Ai hc tI)))))
theorem qr4 {l:List Pt} {k:Nat} (hge:decide ((k:Int)<(l.length:Int))=false):Rl 1 1 44 0 45 2 (qy3 k l) ([(1,0,.ls 0 l.length),(0,0,qad l)]) (.exit 0) ([(1,.pp 1 0)]) ([(1,0,.ls 0 l.length),(0,0,qad l)]):=
 RunsL.stop [] 300 [.t false] (fun h=>by cases h)
  (Ro (Ai hge tI))
theorem qkc {l:List Pt} {k:Nat} {p q:Pt} (hq:l[k]?=some q) (hk:l[k+1]?=some p) (hi0:0≤(k:Int)∧(k:Int)<(l.length:Int)) (hi1:0≤((k+1:Nat):Int)∧((k+1:Nat):Int)<(l.length:Int)) (hlt:decide (((k+1:Nat):Int)<(l.length:Int))=true) (hm:iV (IntKind.i64.wrap (((k+1:Nat):Int)-1))=iV (k:Int)) (hg:decide (q.id≥p.id)=false) (hs:iV (IntKind.i64.wrap (((k+1:Nat):Int)+1))=iV (((k+1+1:Nat):Int))) {e:Exit} {tm2:TmL} {hp2:HpL}
 (r:Rl 1 1 44 1 45 2 ([(1,.pp 1 0),(6,.pv (iV ((k+1+1:Nat):Int)))]) ([(1,0,.ls 0 l.length),(0,0,qad l)]) e tm2 hp2):Rl 1 1 44 1 45 2 ([(1,.pp 1 0),(6,.pv (iV ((k+1:Nat):Int)))]) ([(1,0,.ls 0 l.length),(0,0,qad l)]) e tm2 hp2:=
 RunsL.next [] 300 [.t true,.r (iV (k:Int)),.r (iV q.id),.r (iV p.id),.t false,.r (iV (((k+1+1:Nat):Int)))]
  (Ro (Ai hlt (Ai hm (Ai hi0 (Ai (qb5 hq) (Ai hi1 (Ai (qb5 hk) (Ai hg (Ai hs tI))))))))) r
theorem qto {l:List Pt} {k:Nat} {p q:Pt} (hq:l[k]?=some q) (hk:l[k+1]?=some p) (hi0:0≤(k:Int)∧(k:Int)<(l.length:Int)) (hi1:0≤((k+1:Nat):Int)∧((k+1:Nat):Int)<(l.length:Int)) (hlt:decide (((k+1:Nat):Int)<(l.length:Int))=true) (hm:iV (IntKind.i64.wrap (((k+1:Nat):Int)-1))=iV (k:Int)) (hg:decide (q.id≥p.id)=true):Rl 1 1 44 1 45 2 ([(1,.pp 1 0),(6,.pv (iV ((k+1:Nat):Int)))]) ([(1,0,.ls 0 l.length),(0,0,qad l)]) (.ret) ([(2,.pv (iV 32))]) ([]):=
 RunsL.stop [] 300 [.t true,.r (iV (k:Int)),.r (iV q.id),.r (iV p.id),.t true] (fun h=>by cases h)
  (Ro (Ai hlt (Ai hm (Ai hi0 (Ai (qb5 hq) (Ai hi1 (Ai (qb5 hk) (Ai hg tI))))))))
theorem qox {l:List Pt} {k:Nat} (hge:decide ((k:Int)<(l.length:Int))=false):Rl 1 1 44 1 45 2 ([(1,.pp 1 0),(6,.pv (iV ((k:Nat):Int)))]) ([(1,0,.ls 0 l.length),(0,0,qad l)]) (.exit 2) ([]) ([]):=
 RunsL.stop [] 300 [.t false] (fun h=>by cases h)
  (Ro (Ai hge tI))
theorem qr2 {l:List Pt} (h64:decide ((l.length:Int)>64)=true) :
 Fn 44 1 [qaq 0 l] [(0,0,qad l)] (.pv (iV (4))) 0 []:=
 Fz [] [.t true]
  tI (Ai h64 tI)
theorem qvA {l:List Pt} (h64:decide ((l.length:Int)>64)=false) (r0:Rl 1 1 44 0 45 2 ([(1,.pp 1 0),(12,.ls 0 l.length),(13,.pv (iV (l.length:Int))),(14,.pv (iV ((0:Nat):Int)))]) ([(1,0,.ls 0 l.length),(0,0,qad l)]) (.ret) ([(2,.pv (iV 8))]) ([])) :
 Fn 44 1 [qaq 0 l] [(0,0,qad l)] (.pv (iV (8))) 0 []:=
 Fz [] [.t false,Lf r0]
  tI (Ai h64 (Lo r0 [] tI))
abbrev qz8 (l:List Pt):Prop:=Rl 1 1 44 0 45 2 ([(1,.pp 1 0),(12,.ls 0 l.length),(13,.pv (iV (l.length:Int))),(14,.pv (iV ((0:Nat):Int)))]) ([(1,0,.ls 0 l.length),(0,0,qad l)]) (.exit 0) ([(1,.pp 1 0)]) ([(1,0,.ls 0 l.length),(0,0,qad l)])
theorem qvz {l:List Pt} (h64:decide ((l.length:Int)>64)=false) (r0:qz8 l) (r1:Rl 1 1 44 1 45 2 ([(1,.pp 1 0),(6,.pv (iV ((0+1:Nat):Int)))]) ([(1,0,.ls 0 l.length),(0,0,qad l)]) (.ret) ([(2,.pv (iV 32))]) ([])) :
 Fn 44 1 [qaq 0 l] [(0,0,qad l)] (.pv (iV (32))) 0 []:=
 Fz [] [.t false,Lf r0,Lf r1]
  tI (Ai h64 (Lo r0 [] (Lo r1 [] tI)))
theorem qyt {l:List Pt} (h64:decide ((l.length:Int)>64)=false) (r0:qz8 l) (r1:Rl 1 1 44 1 45 2 ([(1,.pp 1 0),(6,.pv (iV ((0+1:Nat):Int)))]) ([(1,0,.ls 0 l.length),(0,0,qad l)]) (.exit 2) ([]) ([])) :
 Fn 44 1 [qaq 0 l] [(0,0,qad l)] (.pv (iV (0))) 0 []:=
 Fz [] [.t false,Lf r0,Lf r1]
  tI (Ai h64 (Lo r0 [] (Lo r1 [] tI)))
end Go.Proofs.YtleaeldgaflmkaaGreat

namespace Go.Proofs.YtleaeldgaflmkaaGreat
set_option maxRecDepth 100000
open Go.RowKit
theorem vpl {tn td n1 d1 e:Int} {p:Pt} (c1:Pure Tryz.prog 105 #[qab p.id p.a p.b,qaa tn td] (.tuple #[qaa n1 d1,iV e])) :
 Pure Tryz.prog 75 #[qab p.id p.a p.b,qaa tn td] (qaa n1 d1):=
 qac (args:=[qab p.id p.a p.b,qaa tn td]) 300 [Rf c1]
  (Ai rfl (Ai c1 tI)) (by kernel_rfl)
theorem qyA {tn td n1 d1 n2 d2 n3 d3 bn e:Int} {p q:Pt} (c1:Pure Tryz.prog 75 #[qab p.id p.a p.b,qaa tn td] (qaa n1 d1)) (c2:Pure Tryz.prog 75 #[qab q.id q.a q.b,qaa tn td] (qaa n2 d2)) (c3:Pure Tryz.prog 38 #[qaa n1 d1,qaa n2 d2] (.tuple #[qaa n3 d3,iV e])) (h0:decide (n3<0)=true) (hn:iV (IntKind.i64.wrap (0-n3))=iV (bn)) :
 Pure Tryz.prog 106 #[qab p.id p.a p.b,qab q.id q.a q.b,qaa tn td] (qaa bn d3):=
 qac (args:=[qab p.id p.a p.b,qab q.id q.a q.b,qaa tn td]) 300 [.md,Rf c1,Rf c2,Rf c3,.t true,Re hn]
  (Ai rfl (Ai c1 (Ai c2 (Ai c3 (Ai h0 (Ai hn tI)))))) (by kernel_rfl)
theorem qyY {tn td n1 d1 n2 d2 n3 d3 e:Int} {p q:Pt} (c1:Pure Tryz.prog 75 #[qab p.id p.a p.b,qaa tn td] (qaa n1 d1)) (c2:Pure Tryz.prog 75 #[qab q.id q.a q.b,qaa tn td] (qaa n2 d2)) (c3:Pure Tryz.prog 38 #[qaa n1 d1,qaa n2 d2] (.tuple #[qaa n3 d3,iV e])) (h0:decide (n3<0)=false) :
 Pure Tryz.prog 106 #[qab p.id p.a p.b,qab q.id q.a q.b,qaa tn td] (qaa n3 d3):=
 qac (args:=[qab p.id p.a p.b,qab q.id q.a q.b,qaa tn td]) 300 [.md,Rf c1,Rf c2,Rf c3,.t false]
  (Ai rfl (Ai c1 (Ai c2 (Ai c3 (Ai h0 tI))))) (by kernel_rfl)
abbrev qoD (bd:Int) (bn:Int) (s:List Pt) (td:Int) (tn:Int):HpL:=[(1,0,.ls 0 s.length),(2,0,.pv (iV tn)),(2,1,.pv (iV td)),(3,0,.pv (iV 0)),(3,1,.pv (iV 0)),(4,0,.pv (iV bn)),(4,1,.pv (iV bd)),(0,0,qad s)]
abbrev qzd (a:Nat) (b:Nat) (i:Nat) (j:Nat):TmL:=[(2,.pp 1 0),(3,.pp 2 0),(4,.pv (iV 0)),(5,.pv (iV 0)),(6,.pp 3 0),(7,.pv (iV (i:Int))),(8,.pv (iV (j:Int))),(9,.pp 4 0),(10,.pv (iV (a:Int))),(11,.pv (iV (b:Int)))]
abbrev qzS (d1:Int) (n1:Int) (s:List Pt) (td:Int) (tn:Int):HpL:=[(1,0,.ls 0 s.length),(2,0,.pv (iV tn)),(2,1,.pv (iV td)),(3,0,.pv (iV 0)),(3,1,.pv (iV 0)),(4,0,.pv (iV n1)),(4,1,.pv (iV d1)),(0,0,qad s)]
theorem qo0 {tn td n1 d1 bn bd e1:Int} {s:List Pt} {p q:Pt} {i j a b:Nat} (hlt:decide ((b:Int)<(s.length:Int))=true) (ia:0≤(a:Int)∧(a:Int)<(s.length:Int)) (ib:0≤(b:Int)∧(b:Int)<(s.length:Int)) (hp:s[a]?=some p) (hq:s[b]?=some q) (cd:Pure Tryz.prog 106 #[qab p.id p.a p.b,qab q.id q.a q.b,qaa tn td] (qaa n1 d1)) (cc:Pure Tryz.prog 33 #[qaa n1 d1,qaa bn bd] (iV (e1))) (hc:decide (e1<0)=true) (hs:iV (IntKind.i64.wrap ((b:Int)+1))=iV (((b+1:Nat):Int))) {e:Exit} {tm2:TmL} {hp2:HpL}
 (r:Rl 1 1 77 1 71 5 ([(2,.pp 1 0),(3,.pp 2 0),(4,.pv (iV 0)),(5,.pv (iV 0)),(6,.pp 3 0),(7,.pv (iV (a:Int))),(8,.pv (iV (b:Int))),(9,.pp 4 0),(10,.pv (iV (a:Int))),(11,.pv (iV ((b+1:Nat):Int)))]) (qzS d1 n1 s td tn) e tm2 hp2):Rl 1 1 77 1 71 5 (qzd a b i j) (qoD bd bn s td tn) e tm2 hp2:=
 RunsL.next [] 300 [.t true,.md,.r (ptV p),.r (ptV q),Rf cd,Rf cc,.t true,.md,Re hs]
  (Ro (Ai hlt (Ai ia (Ai (qa4 hp) (Ai ib (Ai (qa4 hq) (Ai cd (Ai cc (Ai hc (Ai hs tI)))))))))) r
theorem qqp {tn td n1 d1 bn bd e1:Int} {s:List Pt} {p q:Pt} {i j a b:Nat} (hlt:decide ((b:Int)<(s.length:Int))=true) (ia:0≤(a:Int)∧(a:Int)<(s.length:Int)) (ib:0≤(b:Int)∧(b:Int)<(s.length:Int)) (hp:s[a]?=some p) (hq:s[b]?=some q) (cd:Pure Tryz.prog 106 #[qab p.id p.a p.b,qab q.id q.a q.b,qaa tn td] (qaa n1 d1)) (cc:Pure Tryz.prog 33 #[qaa n1 d1,qaa bn bd] (iV (e1))) (hc:decide (e1<0)=false) (hs:iV (IntKind.i64.wrap ((b:Int)+1))=iV (((b+1:Nat):Int))) {e:Exit} {tm2:TmL} {hp2:HpL}
 (r:Rl 1 1 77 1 71 5 ([(2,.pp 1 0),(3,.pp 2 0),(4,.pv (iV 0)),(5,.pv (iV 0)),(6,.pp 3 0),(7,.pv (iV (i:Int))),(8,.pv (iV (j:Int))),(9,.pp 4 0),(10,.pv (iV (a:Int))),(11,.pv (iV ((b+1:Nat):Int)))]) (qoD bd bn s td tn) e tm2 hp2):Rl 1 1 77 1 71 5 (qzd a b i j) (qoD bd bn s td tn) e tm2 hp2:=
 RunsL.next [] 300 [.t true,.md,.r (ptV p),.r (ptV q),Rf cd,Rf cc,.t false,Re hs]
  (Ro (Ai hlt (Ai ia (Ai (qa4 hp) (Ai ib (Ai (qa4 hq) (Ai cd (Ai cc (Ai hc (Ai hs tI)))))))))) r
abbrev qyz (a:Nat) (i:Nat) (j:Nat):TmL:=[(2,.pp 1 0),(3,.pp 2 0),(4,.pv (iV 0)),(5,.pv (iV 0)),(6,.pp 3 0),(7,.pv (iV (i:Int))),(8,.pv (iV (j:Int))),(9,.pp 4 0),(10,.pv (iV (a:Int)))]
theorem qoI {tn td bn bd:Int} {s:List Pt} {i j a b:Nat} (hlt:decide ((b:Int)<(s.length:Int))=false):Rl 1 1 77 1 71 5 (qzd a b i j) (qoD bd bn s td tn) (.exit 2) (qyz a i j) (qoD bd bn s td tn):=
 RunsL.stop [] 300 [.t false] (fun h=>by cases h)
  (Ro (Ai hlt tI))
abbrev qzX (d2:Int) (n2:Int) (s:List Pt) (td:Int) (tn:Int):HpL:=[(1,0,.ls 0 s.length),(2,0,.pv (iV tn)),(2,1,.pv (iV td)),(3,0,.pv (iV 0)),(3,1,.pv (iV 0)),(4,0,.pv (iV n2)),(4,1,.pv (iV d2)),(0,0,qad s)]
theorem qqH {i2 j2:Nat} {tn td n2 d2 bn bd:Int} {s:List Pt} {i j a:Nat} (hlt:decide ((a:Int)<(s.length:Int))=true) (ha:iV (IntKind.i64.wrap ((a:Int)+1))=iV (((a+1:Nat):Int))) (r0:Rl 1 1 77 1 71 5 ([(2,.pp 1 0),(3,.pp 2 0),(4,.pv (iV 0)),(5,.pv (iV 0)),(6,.pp 3 0),(7,.pv (iV (i:Int))),(8,.pv (iV (j:Int))),(9,.pp 4 0),(10,.pv (iV (a:Int))),(11,.pv (iV ((a+1:Nat):Int)))]) (qoD bd bn s td tn) (.exit 2) ([(2,.pp 1 0),(3,.pp 2 0),(4,.pv (iV 0)),(5,.pv (iV 0)),(6,.pp 3 0),(7,.pv (iV (i2:Int))),(8,.pv (iV (j2:Int))),(9,.pp 4 0),(10,.pv (iV (a:Int)))]) (qzX d2 n2 s td tn)) (hb:iV (IntKind.i64.wrap ((a:Int)+1))=iV (((a+1:Nat):Int))) {e:Exit} {tm2:TmL} {hp2:HpL}
 (r:Rl 1 1 77 0 71 5 ([(2,.pp 1 0),(3,.pp 2 0),(4,.pv (iV 0)),(5,.pv (iV 0)),(6,.pp 3 0),(7,.pv (iV (i2:Int))),(8,.pv (iV (j2:Int))),(9,.pp 4 0),(10,.pv (iV ((a+1:Nat):Int)))]) (qzX d2 n2 s td tn) e tm2 hp2):Rl 1 1 77 0 71 5 (qyz a i j) (qoD bd bn s td tn) e tm2 hp2:=
 RunsL.next [] 300 [.t true,Re ha,Lf r0,Re ha]
  (Ro (Ai hlt (Ai ha (Lo r0 [] (Ai hb tI))))) r
abbrev qzT (i:Nat) (j:Nat):TmL:=[(2,.pp 1 0),(3,.pp 2 0),(4,.pv (iV 0)),(5,.pv (iV 0)),(6,.pp 3 0),(7,.pv (iV (i:Int))),(8,.pv (iV (j:Int))),(9,.pp 4 0)]
theorem qs1 {tn td bn bd:Int} {s:List Pt} {i j a:Nat} (hlt:decide ((a:Int)<(s.length:Int))=false):Rl 1 1 77 0 71 5 (qyz a i j) (qoD bd bn s td tn) (.exit 0) (qzT i j) (qoD bd bn s td tn):=
 RunsL.stop [] 300 [.t false] (fun h=>by cases h)
  (Ro (Ai hlt tI))
theorem qwb {u v:Pt} {tn td n1 d1 bn bd:Int} {s:List Pt} {p q:Pt} {i j:Nat} (i0:0≤(0:Int)∧(0:Int)<(s.length:Int)) (i1:0≤(1:Int)∧(1:Int)<(s.length:Int)) (h0:s[0]?=some p) (h1:s[1]?=some q) (cd:Pure Tryz.prog 106 #[qab p.id p.a p.b,qab q.id q.a q.b,qaa tn td] (qaa n1 d1)) (r0:Rl 1 1 77 0 71 5 ([(2,.pp 1 0),(3,.pp 2 0),(4,.pv (iV 0)),(5,.pv (iV 0)),(6,.pp 3 0),(7,.pv (iV ((0:Nat):Int))),(8,.pv (iV ((1:Nat):Int))),(9,.pp 4 0),(10,.pv (iV ((0:Nat):Int)))]) (qzS d1 n1 s td tn) (.exit 0) (qzT i j) (qoD bd bn s td tn)) (ii:0≤(i:Int)∧(i:Int)<(s.length:Int)) (ij:0≤(j:Int)∧(j:Int)<(s.length:Int)) (hi:s[i]?=some u) (hj:s[j]?=some v) :
 Fn 77 1 [qaq 0 s,.pv (qaa tn td)] [(0,0,qad s)] (.pv (.tuple #[iV u.id,iV v.id,qaa bn bd])) 0 []:=
 Fz [] [.md,.r (ptV p),.r (ptV q),Rf cd,Lf r0,.md,.r (iV u.id),.r (iV v.id)]
  tI (Ai i0 (Ai (qa4 h0) (Ai i1 (Ai (qa4 h1) (Ai cd (Lo r0 [] (Ai ii (Ai (qb5 hi) (Ai ij (Ai (qb5 hj) tI))))))))))
end Go.Proofs.YtleaeldgaflmkaaGreat

namespace Go.Proofs.YtleaeldgaflmkaaGreat
set_option maxRecDepth 100000
open Go.RowKit
theorem qx8 {tn td e1:Int} {s:List Pt} (ha:Pure Tryz.prog 31 #[qaa tn td] (iV (e1))) (he:(e1 !=0)=true) :
 Fn 25 1 [.ag [.pv (iV tn),.pv (iV td),.ls 0 s.length]] [(0,0,qad s)] (.pv (iV (8))) 0 []:=
 Fz [] [Rf ha,.t true]
  tI (Ai ha (Ai he tI))
theorem qxS {tn td e2:Int} {s:List Pt} (ha:Pure Tryz.prog 31 #[qaa tn td] (iV (0))) (hc:Fn 50 1 [qaq 0 s] [(0,0,qad s)] (.pv (iV (e2))) 0 []) (he:(e2 !=0)=true) :
 Fn 25 1 [.ag [.pv (iV tn),.pv (iV td),.ls 0 s.length]] [(0,0,qad s)] (.pv (iV (8))) 0 []:=
 Fz [] [Rf ha,.k,Cf hc [0],.t true]
  tI (Ai ha (Co hc [0] 2 (Ai he tI)))
theorem qzn {tn td:Int} {s:List Pt} (ha:Pure Tryz.prog 31 #[qaa tn td] (iV (0))) (hc:Fn 50 1 [qaq 0 s] [(0,0,qad s)] (.pv (iV (0))) 0 []) :
 Fn 25 1 [.ag [.pv (iV tn),.pv (iV td),.ls 0 s.length]] [(0,0,qad s)] (.pv (iV (0))) 0 []:=
 Fz [] [Rf ha,.k,Cf hc [0],.k]
  tI (Ai ha (Co hc [0] 2 tI))
theorem vtw {tn td:Int} {s:List Pt} (ht:Fn 47 1 [qaq 0 s] [(0,0,qad s)] (.ag [.ls 1 s.length]) 1 [(1,0,qad s)]) :
 Fn 21 1 [.ag [.pv (iV tn),.pv (iV td),.ls 0 s.length]] [(0,0,qad s)] (.ag [.pv (iV tn),.pv (iV td),.ls 1 s.length]) 1 [(1,0,qad s)]:=
 Fz [(1,3)] [.md,Cf ht [0]]
  (qaH (qaG [(1,3)]) [(1,0,qad s)]) (Co ht [0] 3 tI)
end Go.Proofs.YtleaeldgaflmkaaGreat
