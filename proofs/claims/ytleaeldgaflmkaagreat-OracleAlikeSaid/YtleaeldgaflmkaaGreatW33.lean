/-
  Joined: Py, Fa, Fe, Fj, Fd, Fb, Fc, Vc, Vh. Conditions: none.
-/
import Derived.Test.YtleaeldgaflmkaaGreatW32
import Derived.Test.YtleaeldgaflmkaaGreatW30
import Derived.Test.YtleaeldgaflmkaaGreatW25
import Derived.Test.YtleaeldgaflmkaaGreatW31
namespace Go.Proofs.YtleaeldgaflmkaaGreat
set_option maxRecDepth 100000
open Go.RowKit
theorem qqD {s d:Int} (hs:s.natAbs<340282366920938463463374607431768211456) (hd:I64 d) (d0:0<d):∃ N D E,IsRes s d N D E∧Pure Tryz.prog 128 #[qb3 s,.int .i64 d] (.tuple #[qaa N D,.int .i64 E]):=by
 unfold I64 at hd
 obtain⟨dn,rfl⟩:∃ n:Nat,d=n:=⟨d.natAbs,by omega⟩
 obtain⟨g,hg⟩:∃ g,g=Nat.gcd dn (s.natAbs%dn):=⟨_,rfl⟩
 have hg2:g=Nat.gcd s.natAbs dn:=by rw[hg,Nat.gcd_comm dn (s.natAbs%dn),← Nat.gcd_rec,Nat.gcd_comm]
 have g0:0<g:=hg▸Nat.gcd_pos_of_pos_left _ (by omega)
 have gl:g≤dn:=hg▸Nat.gcd_le_left _ (by omega)
 have ml:s.natAbs%dn<dn:=Nat.mod_lt _ (by omega)
 have q1:=qeL (decide (s<0)) s.natAbs dn hs (by omega) (by omega)
 have q2:=qeL (decide (s<0)) s.natAbs g hs g0 (by omega)
 have gk:=qbr dn (s.natAbs%dn) g (by omega) (by omega) hg
 obtain⟨x,hx⟩:∃ x,x=s.natAbs/g:=⟨_,rfl⟩
 obtain⟨y,hy⟩:∃ y,y=dn/g:=⟨_,rfl⟩
 have ax:s.natAbs=g*x:=by rw[hx,hg2];exact (Nat.mul_div_cancel' (Nat.gcd_dvd_left _ _)).symm
 have bY:dn=g*y:=by rw[hy,hg2];exact (Nat.mul_div_cancel' (Nat.gcd_dvd_right _ _)).symm
 have hxy:Nat.gcd x y=1:=by rw[hx,hy,hg2];exact Nat.gcd_div_gcd_div_gcd_of_pos_right (by omega)
 have y0:0<y:=by
  rcases Nat.eq_zero_or_pos y with e | e
  ·rw[e,Nat.mul_zero] at bY;omega
  ·exact e
 have ly:=Nat.div_le_self dn g
 rw[← hy] at ly
 have md:=qbj (decide (s<0)) false false x y
 rw[qg5 (x:=y) (by omega)] at md
 have q3:=qrV (x:=dn) (y:=g) (by omega)
 rw[← hy] at q3
 rw[← hx] at q2
 refine⟨_,_,_,?_,qmI (qiA (by omega) (by omega)) q1 gk q2 (by omega) q3 md⟩
 have cx:(x:Int)*((g*y:Nat):Int)=((g*x:Nat):Int)*(y:Int):=by rw[← Int.natCast_mul,← Int.natCast_mul];congr 1;rw[Nat.mul_left_comm,Nat.mul_assoc]
 have sU:¬ (y:Int)<0:=by omega
 by_cases sg:s<0
 ·have x0:0<x:=by
   rcases Nat.eq_zero_or_pos x with e | e
   ·rw[e,Nat.mul_zero] at ax;omega
   ·exact e
  have:=qct (p:=s) (q:=(dn:Int)) (T:=-(x:Int)) (U:=(y:Int)) (by omega) (by omega) (by rw[Int.natAbs_neg,Int.natAbs_natCast,Int.natAbs_natCast];exact hxy) (by
   rw[show s = -((g*x:Nat):Int) by omega,bY,Int.neg_mul,Int.neg_mul,cx])
  rw[Int.natAbs_neg,Int.natAbs_natCast,Int.natAbs_natCast,dt (show -(x:Int)<0 by omega),df sU,qft (U:=y) (fun h=>by simp only[Bool.and_eq_true] at h;simpa [qaG] using h.2)] at this
  rw[dt sg]
  exact this
 ·have:=qct (p:=s) (q:=(dn:Int)) (T:=(x:Int)) (U:=(y:Int)) (by omega) (by omega) (by rw[Int.natAbs_natCast,Int.natAbs_natCast];exact hxy) (by
   rw[show s=((g*x:Nat):Int) by omega,bY,cx])
  rw[Int.natAbs_natCast,Int.natAbs_natCast,df (show ¬ (x:Int)<0 by omega),df sU,qft (U:=y) (fun h=>by simp only[Bool.and_eq_true] at h;simpa [qaG] using h.2)] at this
  rw[df sg]
  exact this
theorem qsk {pi pa pb n d:Int} (hn:I64 n) (hd:I64 d) (hp:okP pi pa pb=true) (ht:okB n d=true) :
 ∃ N D E,IsRes (pa*d+pb*n) d N D E∧Pure Tryz.prog 105 #[qab pi pa pb,qaa n d] (.tuple #[qaa N D,iV E]):=by
 have hp':=qbt.1 hp
 have d1:=qaz ht
 have c1:=qaP hp
 have c2:=qmH hn hd ht
 have iA:I64 pa:=by unfold I64;omega
 have iB:I64 pb:=by unfold I64;omega
 have i1:I64 1:=by unfold I64;omega
 have oB:okB pb 1=true:=qhX (by omega)
 have oA:okB pa 1=true:=qhX (by omega)
 have mr:=qsv (a:=pb) (b:=1) (c:=n) (d:=d) oB ht
 have hm:=qqy iB i1 hn hd oB ht
 generalize muN pb 1 n d=N1 at *
 generalize muD pb 1 n d=D1 at *
 generalize qfQ (muF pb 1 n d)=E1 at *
 rw[Int.one_mul] at mr
 rcases mr with ⟨rfl,k1,j1,j2,e1⟩ | ⟨rfl,rfl,rfl,_⟩
 ·have D0:=qaz k1
  have hadd:=qjy iA i1 j1 j2 oA k1
  have hres:=(qh6 oA k1).congr (p':=pa*d+pb*n) (q':=d) (by omega) (by omega) (by
   rw[Int.one_mul,Int.mul_one,Int.add_mul,Int.add_mul,e1,Int.mul_right_comm pa D1 d])
  exact⟨_,_,_,hres,quA c1 c2 hm hadd⟩
 ·have p1:=qaV pa d iA hd
  have p2:=qaV pb n iB hn
  have b1:(pa*d).natAbs≤1048576*9223372036854775808:=by rw[Int.natAbs_mul];unfold I64 at hd;exact Nat.mul_le_mul (by omega) (by omega)
  have b2:(pb*n).natAbs≤1048576*9223372036854775808:=by rw[Int.natAbs_mul];unfold I64 at hn;exact Nat.mul_le_mul (by omega) (by omega)
  have p3:=qfl (pa*d) (pb*n) (by omega) (by omega)
  obtain⟨N,D,E,hr,ho⟩:=qqD (s:=pa*d+pb*n) (d:=d) (by omega) hd (by omega)
  exact⟨N,D,E,hr,qoV c1 c2 hm p1 p2 p3 ho⟩
end Go.Proofs.YtleaeldgaflmkaaGreat

namespace Go.Proofs.YtleaeldgaflmkaaGreat
set_option maxRecDepth 100000
open Go.RowKit
structure Pt where
 id:Int
 a:Int
 b:Int
abbrev ptV (p:Pt):Value:=qab p.id p.a p.b
def qaZ:List Pt→List Value
 | []=>[]
 | p::r=>iV p.id::iV p.a::iV p.b::qaZ r
theorem qbT:∀ (a b:List Pt),qaZ (a++b)=qaZ a++qaZ b
 | [],_=>rfl
 | p::r,b=>by simp[qaZ,qbT r b]
theorem qcz:∀ (l:List Pt),(qaZ l).length=l.length*3
 | []=>rfl
 | p::r=>by simp[qaZ,qcz r];omega
theorem qeE:∀ {l:List Pt} {k:Nat} {p:Pt},l[k]?=some p→(qaZ l)[k*3]?=some (iV p.id)∧(qaZ l)[k*3+1]?=some (iV p.a)∧(qaZ l)[k*3+2]?=some (iV p.b)
 | [],k,p,h=>by simp at h
 | q::r,0,p,h=>by simp at h;subst h;exact⟨rfl,rfl,rfl⟩
 | q::r,k+1,p,h=>by
  have:=qeE (l:=r) (k:=k) (p:=p) (by simpa using h)
  rw[show (k+1)*3=k*3+1+1+1 by omega]
  exact this
theorem qaY {l:List Pt} {k:Nat} {p:Pt} (h:l[k]?=some p):qeg (qaZ l) (0*3+k*3) [iV p.id,iV p.a,iV p.b]:=by
 obtain⟨h1,h2,h3⟩:=qeE h
 intro j v hj
 rw[show 0*3+k*3+j=k*3+j by omega]
 match j,hj with
 | 0,hj=>cases hj;exact h1
 | 1,hj=>cases hj;exact h2
 | 2,hj=>cases hj;exact h3
 | j+3,hj=>simp at hj
theorem qbB {l:List Pt} {k:Nat} {p:Pt} (h:l[k]?=some p):qeg (qaZ l) (0*3+k*3) [iV p.id]:=by
 intro j v hj
 rw[show 0*3+k*3+j=k*3+j by omega]
 match j,hj with
 | 0,hj=>cases hj;exact (qeE h).1
 | j+1,hj=>simp at hj
theorem RunsL.rounds {P:Program} {lo fr:Nat} {c:Code} {n nb:Nat} (tm:Nat→List (Nat×SV)) (hp:Nat→List (Nat×Nat×SV)) {e:Exit} {tm2:TmL} {hp2:HpL} {N:Nat} :
 ∀ (d i:Nat),i+d=N→(∀ j,i≤j→j<N→RunsL P lo fr c n nb (tm (j+1)) (hp (j+1)) e tm2 hp2→RunsL P lo fr c n nb (tm j) (hp j) e tm2 hp2)→RunsL P lo fr c n nb (tm N) (hp N) e tm2 hp2→RunsL P lo fr c n nb (tm i) (hp i) e tm2 hp2
 | 0,i,h,_,last=>by
  have:i=N:=by omega
  subst this;exact last
 | d+1,i,h,step,last=>step i (Nat.le_refl i) (by omega) (RunsL.rounds tm hp d (i+1) (by omega) (fun j h1 h2=>step j (by omega) h2) last)
abbrev qad (l:List Pt):SV:=.row 34 3 l.length (qaZ l)
abbrev qaq (b:Nat) (l:List Pt):SV:=.ag [.ls b l.length]
theorem qat {k:Nat} (h:k≤1000000):iV (IntKind.i64.wrap ((k:Int)+1))=iV ((k+1:Nat):Int):=by rw[qah (by omega) (by omega)];rfl
theorem qvN (l:List Pt):SV.ag [.ls 4 (0+l.length)]=(SV.ag [.ls 1 l.length]).ren (qaF [(1,4)]):=by rw[Nat.zero_add];rfl
theorem qi8 (l:List Pt):some (SV.row 34 3 (0+l.length) ([]++qaZ l))=some (qad l):=by rw[Nat.zero_add,List.nil_append]
theorem qgu (m:List Pt) (p:Pt):qaZ m++[iV p.id,iV p.a,iV p.b]=qaZ (m++[p]):=by rw[qbT];rfl
theorem qiF (b:Nat) (m:List Pt) (p:Pt):some (SV.ls b (m.length+1))=some (SV.ls b (m++[p]).length):=by rw[List.length_append];rfl
theorem qeJ (m:List Pt) (p:Pt):some (SV.row 34 3 (m.length+1) (qaZ m++[iV p.id,iV p.a,iV p.b]))=some (qad (m++[p])):=by rw[qgu,qad,List.length_append];rfl
theorem qpN (b:Nat) (m:List Pt) (p q:Pt):some (SV.ls b (m.length+1+1))=some (SV.ls b (m++[p]++[q]).length):=by rw[List.length_append,List.length_append];rfl
theorem ql8 (m:List Pt) (p q:Pt):some (SV.row 34 3 (m.length+1+1) (qaZ m++[iV p.id,iV p.a,iV p.b]++[iV q.id,iV q.a,iV q.b]))=some (qad (m++[p]++[q])):=by
 rw[qgu,qgu,qad,List.length_append,List.length_append];rfl
theorem qus (b:Nat) (m:List Pt) (p:Pt):SV.tu [.ag [.ls b (m.length+1)],.one (.pv (iV 0))]=(SV.tu [.ag [.ls 1 (m++[p]).length],.one (.pv (iV 0))]).ren (qaF [(1,b)]):=by rw[List.length_append];rfl
theorem qlR:∀ (l:List Pt) (k:Nat) (p:Pt),k<l.length→qaZ (l.set k p)=qfW (qaZ l) (k*3) [iV p.id,iV p.a,iV p.b]
 | [],k,p,h=>by simp at h
 | q::r,0,p,_=>rfl
 | q::r,k+1,p,h=>by
  rw[List.set_cons_succ,qaZ,qlR r k p (by simpa using h),show (k+1)*3=k*3+1+1+1 by omega]
  simp[qfW,qaZ,Nat.add_right_comm]
theorem qt5 (l:List Pt) (k:Nat) (p:Pt) (h:k<l.length):qaZ (l.set k p)=qfW (qaZ l) (0*3+k*3) [iV p.id,iV p.a,iV p.b]:=by
 rw[Nat.zero_mul,Nat.zero_add];exact qlR l k p h
theorem qxr (l:List Pt) (k:Nat) (h:k<l.length):0*3+k*3+3≤(qaZ l).length:=by rw[qcz];omega
theorem qxw (b:Nat) (l:List Pt) (k:Nat) (p:Pt):SV.tu [.ag [.ls b l.length],.one (.pv (iV 0))]=(SV.tu [.ag [.ls 1 (l.set k p).length],.one (.pv (iV 0))]).ren (qaF [(1,b)]):=by rw[List.length_set];rfl
theorem qqK (l:List Pt) (k:Nat) (p:Pt):some (SV.row 34 3 l.length (qaZ (l.set k p)))=some (qad (l.set k p)):=by rw[qad,List.length_set]
theorem qeS:∀ (l:List Pt) (k:Nat),(qaZ l).drop (k*3)=qaZ (l.drop k)
 | l,0=>by simp
 | [],k+1=>by simp[qaZ]
 | p::r,k+1=>by rw[show (k+1)*3=k*3+1+1+1 by omega,List.drop_succ_cons];exact qeS r k
theorem qeR:∀ (l:List Pt) (k:Nat),(qaZ l).take (k*3)=qaZ (l.take k)
 | l,0=>by simp[qaZ]
 | [],k+1=>by simp[qaZ]
 | p::r,k+1=>by rw[show (k+1)*3=k*3+1+1+1 by omega,List.take_succ_cons];exact congrArg (fun z=>iV p.id::iV p.a::iV p.b::z) (qeR r k)
theorem qil (l:List Pt) (k:Nat):((qaZ l).drop ((0+0)*3)).take (k*3)=qaZ (l.take k):=by rw[Nat.zero_add,qeS,qeR];rfl
theorem qiD (l:List Pt) (k:Nat):((qaZ l).drop ((0+k)*3)).take ((l.length-k)*3)=qaZ (l.drop k):=by rw[Nat.zero_add,qeS,qeR,List.take_of_length_le (by simp)]
theorem qm9 (l:List Pt) (k:Nat) (p:Pt) (h:k≤l.length):(l.take k++p::l.drop k).length=0+k+1+(l.length-k):=by simp;omega
theorem qvV (b:Nat) (l:List Pt) (k:Nat) (p:Pt) (h:k≤l.length):SV.tu [.ag [.ls b (0+k+1+(l.length-k))],.one (.pv (iV 0))]=(SV.tu [.ag [.ls 1 (l.take k++p::l.drop k).length],.one (.pv (iV 0))]).ren (qaF [(1,b)]):=by rw[qm9 l k p h];rfl
theorem qt1 (l:List Pt) (k:Nat) (p:Pt) (h:k≤l.length):some (SV.row 34 3 (0+k+1+(l.length-k)) ([]++((qaZ l).drop ((0+0)*3)).take (k*3)++[iV p.id,iV p.a,iV p.b]++((qaZ l).drop ((0+k)*3)).take ((l.length-k)*3)))=some (qad (l.take k++p::l.drop k)):=by
 rw[qil,qiD,qad,qm9 l k p h,qbT];simp[qaZ]
theorem qjT (l:List Pt) (k:Nat) (h:k+1≤l.length):(l.take k++l.drop (k+1)).length=0+k+(l.length-(k+1)):=by simp;omega
theorem qmJ (b:Nat) (l:List Pt) (k:Nat) (h:k+1≤l.length):SV.tu [.ag [.ls b (0+k+(l.length-(k+1)))],.one (.pv (iV 0))]=(SV.tu [.ag [.ls 1 (l.take k++l.drop (k+1)).length],.one (.pv (iV 0))]).ren (qaF [(1,b)]):=by rw[qjT l k h];rfl
theorem qjL (l:List Pt) (k:Nat) (h:k+1≤l.length):some (SV.row 34 3 (0+k+(l.length-(k+1))) ([]++((qaZ l).drop ((0+0)*3)).take (k*3)++((qaZ l).drop ((0+(k+1))*3)).take ((l.length-(k+1))*3)))=some (qad (l.take k++l.drop (k+1))):=by
 rw[qil,qiD,qad,qjT l k h,qbT];simp
theorem qni (l:List Pt) (k:Nat) (p:Pt) (h:k+1≤l.length):(l.take k++p::l.drop (k+1)).length=0+k+1+(l.length-(k+1)):=by simp;omega
theorem qvf (b:Nat) (l:List Pt) (k:Nat) (p:Pt) (h:k+1≤l.length):SV.tu [.ag [.ls b (0+k+1+(l.length-(k+1)))],.one (.pv (iV 0))]=(SV.tu [.ag [.ls 1 (l.take k++p::l.drop (k+1)).length],.one (.pv (iV 0))]).ren (qaF [(1,b)]):=by rw[qni l k p h];rfl
theorem qtT (l:List Pt) (k:Nat) (p:Pt) (h:k+1≤l.length):some (SV.row 34 3 (0+k+1+(l.length-(k+1))) ([]++((qaZ l).drop ((0+0)*3)).take (k*3)++[iV p.id,iV p.a,iV p.b]++((qaZ l).drop ((0+(k+1))*3)).take ((l.length-(k+1))*3)))=some (qad (l.take k++p::l.drop (k+1))):=by
 rw[qil,qiD,qad,qni l k p h,qbT];simp[qaZ]
theorem qgv (x:Int):(x==x)=true:=by simp
def qfz (l:List Int):List Value:=l.map fun x=>iV x
theorem qxs {l:List Int} {k:Nat} {x:Int} (h:l[k]?=some x):qeg (qfz l) (0*1+k*1) [iV x]:=by
 intro j v hj
 match j,hj with
 | 0,hj=>cases hj;simp[qfz,h]
 | j+1,hj=>simp at hj
theorem qAw:∀ (l:List Int) (k:Nat) (x:Int),k<l.length→qfz (l.set k x)=qfW (qfz l) k [iV x]
 | [],k,x,h=>by simp at h
 | y::r,0,x,_=>rfl
 | y::r,k+1,x,h=>by
  have:=qAw r k x (by simpa using h)
  simp only[qfz,List.set_cons_succ,List.map_cons] at this ⊢
  rw[this]
  simp[qfW,Nat.add_right_comm]
theorem qqn (l:List Int) (k:Nat) (x:Int) (h:k<l.length):qfz (l.set k x)=qfW (qfz l) (0*1+k*1) [iV x]:=by
 rw[Nat.zero_mul,Nat.zero_add,Nat.mul_one];exact qAw l k x h
theorem qs2 (l:List Int) (k:Nat) (h:k<l.length):0*1+k*1+1≤(qfz l).length:=by simp[qfz];omega
theorem qor:∀ n:Nat,qcF [iV 0] n=qfz (List.replicate n 0)
 | 0=>rfl
 | n+1=>by rw[qcF,qor n];rfl
theorem qsa (n:Nat):some (SV.row 3 1 n (qcF [iV 0] n))=some (SV.row 3 1 n (qfz (List.replicate n 0))):=by rw[qor]
theorem qum (l:List Pt):SV.ls 2 (0+l.length)=(SV.ls 1 l.length).ren (qaF [(1,2)]):=by rw[Nat.zero_add];rfl
end Go.Proofs.YtleaeldgaflmkaaGreat

namespace Go.Proofs.YtleaeldgaflmkaaGreat
set_option maxRecDepth 100000
open Go.RowKit
theorem qn6 {l:List Pt} (hn:0+l.length≤1000000) :
 Fn 47 1 [qaq 0 l] [(0,0,qad l)] (.ag [.ls 1 l.length]) 1 [(1,0,qad l)]:=
 Fx [(1,4)] []
  (qvN l) (Ai (qi8 l) tI) (Ai hn tI)
abbrev qxS (l:List Pt) (m:List Pt):HpL:=[(2,0,.ls 0 l.length),(3,0,.ls 1 m.length),(0,0,qad l),(1,0,qad m)]
theorem qog {l m:List Pt} {k:Nat} {p q:Pt} (hk:l[k]?=some p) (hin:0≤(k:Int)∧(k:Int)<(l.length:Int)) (hq:m[k]?=some q) (hin2:0≤(k:Int)∧(k:Int)<(m.length:Int)) (hlt:decide ((k:Int)<(l.length:Int))=true) (hne:(!(p.id==q.id&&(p.a==q.a&&(p.b==q.b&&true))))=false) (hs:iV (IntKind.i64.wrap ((k:Int)+1))=iV (((k+1:Nat):Int))) {e:Exit} {tm2:TmL} {hp2:HpL}
 (r:Rl 2 2 49 0 31 4 ([(2,.pp 2 0),(3,.pp 3 0),(5,.pv (iV ((k+1:Nat):Int)))]) (qxS l m) e tm2 hp2):Rl 2 2 49 0 31 4 ([(2,.pp 2 0),(3,.pp 3 0),(5,.pv (iV (k:Int)))]) (qxS l m) e tm2 hp2:=
 RunsL.next [] 300 [.t true,.r (ptV p),.r (ptV q),.t false,Re hs]
  (Ro (Ai hlt (Ai hin (Ai (qaY hk) (Ai hin2 (Ai (qaY hq) (Ai hne (Ai hs tI)))))))) r
theorem qqB {l m:List Pt} {k:Nat} (hge:decide ((k:Int)<(l.length:Int))=false):Rl 2 2 49 0 31 4 ([(2,.pp 2 0),(3,.pp 3 0),(5,.pv (iV (k:Int)))]) (qxS l m) (.exit 0) ([]) ([]):=
 RunsL.stop [] 300 [.t false] (fun h=>by cases h)
  (Ro (Ai hge tI))
theorem qqJ {l m:List Pt} (hl:(!((l.length:Int)==(m.length:Int)))=false) (r0:Rl 2 2 49 0 31 4 ([(2,.pp 2 0),(3,.pp 3 0),(5,.pv (iV ((0:Nat):Int)))]) (qxS l m) (.exit 0) ([]) ([])) :
 Fn 49 2 [qaq 0 l,qaq 1 m] [(0,0,qad l),(1,0,qad m)] (.pv (.bool true)) 0 []:=
 Fz [] [.t false,Lf r0]
  tI (Ai hl (Lo r0 [] tI))
end Go.Proofs.YtleaeldgaflmkaaGreat

namespace Go.Proofs.YtleaeldgaflmkaaGreat
set_option maxRecDepth 100000
open Go.RowKit
abbrev qrp (l:List Pt) (p:Pt) (td:Int) (tn:Int):HpL:=[(1,0,.ls 0 l.length),(0,0,qad l),(2,0,.pv (iV p.id)),(2,1,.pv (iV p.a)),(2,2,.pv (iV p.b)),(3,0,.pv (iV tn)),(3,1,.pv (iV td))]
abbrev qxT (k:Nat) (n:Nat):TmL:=[(3,.pp 1 0),(4,.pp 2 0),(5,.pp 3 0),(7,.pv (iV (n:Int))),(8,.pv (iV (k:Int)))]
theorem qsT {l:List Pt} {k n:Nat} {p q:Pt} {tn td:Int} (hk:l[k]?=some q) (hin:0≤(k:Int)∧(k:Int)<(l.length:Int)) (hlt:decide ((k:Int)<(l.length:Int))=true) (hne:(!(q.id==p.id))=false) (hs:iV (IntKind.i64.wrap ((k:Int)+1))=iV (((k+1:Nat):Int))) {e:Exit} {tm2:TmL} {hp2:HpL}
 (r:Rl 1 1 104 0 38 4 ([(3,.pp 1 0),(4,.pp 2 0),(5,.pp 3 0),(7,.pv (iV (n:Int))),(8,.pv (iV ((k+1:Nat):Int)))]) (qrp l p td tn) e tm2 hp2):Rl 1 1 104 0 38 4 (qxT k n) (qrp l p td tn) e tm2 hp2:=
 RunsL.next [] 300 [.t true,.r (iV q.id),.t false,Re hs]
  (Ro (Ai hlt (Ai hin (Ai (qbB hk) (Ai hne (Ai hs tI)))))) r
theorem qzo {l:List Pt} {k n:Nat} {p q:Pt} {tn td:Int} (hk:l[k]?=some q) (hin:0≤(k:Int)∧(k:Int)<(l.length:Int)) (hlt:decide ((k:Int)<(l.length:Int))=true) (hne:(!(q.id==p.id))=true) (hl:Pure Tryz.prog 126 #[qab q.id q.a q.b,qab p.id p.a p.b,qaa tn td] (.bool false)) (hs:iV (IntKind.i64.wrap ((k:Int)+1))=iV (((k+1:Nat):Int))) {e:Exit} {tm2:TmL} {hp2:HpL}
 (r:Rl 1 1 104 0 38 4 ([(3,.pp 1 0),(4,.pp 2 0),(5,.pp 3 0),(7,.pv (iV (n:Int))),(8,.pv (iV ((k+1:Nat):Int)))]) (qrp l p td tn) e tm2 hp2):Rl 1 1 104 0 38 4 (qxT k n) (qrp l p td tn) e tm2 hp2:=
 RunsL.next [] 300 [.t true,.r (iV q.id),.t true,.r (ptV q),Rf hl,Re hs]
  (Ro (Ai hlt (Ai hin (Ai (qbB hk) (Ai hne (Ai hin (Ai (qaY hk) (Ai hl (Ai hs tI))))))))) r
theorem qyW {l:List Pt} {k n:Nat} {p q:Pt} {tn td:Int} (hk:l[k]?=some q) (hin:0≤(k:Int)∧(k:Int)<(l.length:Int)) (hlt:decide ((k:Int)<(l.length:Int))=true) (hne:(!(q.id==p.id))=true) (hl:Pure Tryz.prog 126 #[qab q.id q.a q.b,qab p.id p.a p.b,qaa tn td] (.bool true)) (hn:iV (IntKind.i64.wrap ((n:Int)+1))=iV (((n+1:Nat):Int))) (hs:iV (IntKind.i64.wrap ((k:Int)+1))=iV (((k+1:Nat):Int))) {e:Exit} {tm2:TmL} {hp2:HpL}
 (r:Rl 1 1 104 0 38 4 ([(3,.pp 1 0),(4,.pp 2 0),(5,.pp 3 0),(7,.pv (iV ((n+1:Nat):Int))),(8,.pv (iV ((k+1:Nat):Int)))]) (qrp l p td tn) e tm2 hp2):Rl 1 1 104 0 38 4 (qxT k n) (qrp l p td tn) e tm2 hp2:=
 RunsL.next [] 300 [.t true,.r (iV q.id),.t true,.r (ptV q),Rf hl,Re hn,Re hs]
  (Ro (Ai hlt (Ai hin (Ai (qbB hk) (Ai hne (Ai hin (Ai (qaY hk) (Ai hl (Ai hn (Ai hs tI)))))))))) r
theorem qwH {l:List Pt} {k n:Nat} {p:Pt} {tn td:Int} (hge:decide ((k:Int)<(l.length:Int))=false):Rl 1 1 104 0 38 4 (qxT k n) (qrp l p td tn) (.exit 0) ([(7,.pv (iV (n:Int)))]) ([]):=
 RunsL.stop [] 300 [.t false] (fun h=>by cases h)
  (Ro (Ai hge tI))
theorem qut {l:List Pt} {n:Nat} {p:Pt} {tn td:Int} (r0:Rl 1 1 104 0 38 4 ([(3,.pp 1 0),(4,.pp 2 0),(5,.pp 3 0),(7,.pv (iV ((0:Nat):Int))),(8,.pv (iV ((0:Nat):Int)))]) (qrp l p td tn) (.exit 0) ([(7,.pv (iV (n:Int)))]) ([])) :
 Fn 104 1 [qaq 0 l,.pv (ptV p),.pv (qaa tn td)] [(0,0,qad l)] (.pv (iV (n:Int))) 0 []:=
 Fz [] [Lf r0]
  tI (Lo r0 [] tI)
abbrev qx7 (g:List Int) (l:List Pt) (td:Int) (tn:Int):HpL:=[(1,0,.ls 0 l.length),(0,0,qad l),(2,0,.pv (iV tn)),(2,1,.pv (iV td)),(3,0,.row 3 1 l.length (qfz g))]
theorem qs5 {l:List Pt} {g:List Int} {k n:Nat} {p:Pt} {tn td:Int} (hk:l[k]?=some p) (hin:0≤(k:Int)∧(k:Int)<(l.length:Int)) (hg:n<g.length) (hn:0≤(n:Int)∧(n:Int)<(l.length:Int)) (hlt:decide ((k:Int)<(l.length:Int))=true) (hr:Fn 104 1 [qaq 0 l,.pv (ptV p),.pv (qaa tn td)] [(0,0,qad l)] (.pv (iV (n:Int))) 0 []) (hs:iV (IntKind.i64.wrap ((k:Int)+1))=iV (((k+1:Nat):Int))) {e:Exit} {tm2:TmL} {hp2:HpL}
 (r:Rl 1 1 74 0 35 4 ([(2,.pp 1 0),(3,.pp 2 0),(5,.ls 3 l.length),(6,.pv (iV ((k+1:Nat):Int)))]) ([(1,0,.ls 0 l.length),(0,0,qad l),(2,0,.pv (iV tn)),(2,1,.pv (iV td)),(3,0,.row 3 1 l.length (qfz (g.set n p.id)))]) e tm2 hp2):Rl 1 1 74 0 35 4 ([(2,.pp 1 0),(3,.pp 2 0),(5,.ls 3 l.length),(6,.pv (iV (k:Int)))]) (qx7 g l td tn) e tm2 hp2:=
 RunsL.next [] 300 [.t true,.r (ptV p),Cf hr [0],.r (iV p.id),.w (qfz (g.set n p.id)),Re hs]
  (Ro (Ai hlt (Ai hin (Ai (qaY hk) (Co hr [0] 4 (Ai hin (Ai (qbB hk) (Ai hn (Ai (qqn g n p.id hg) (Ai (qs2 g n hg) (Ai hs tI))))))))))) r
theorem qvK {l:List Pt} {g:List Int} {k:Nat} {tn td:Int} (hge:decide ((k:Int)<(l.length:Int))=false):Rl 1 1 74 0 35 4 ([(2,.pp 1 0),(3,.pp 2 0),(5,.ls 3 l.length),(6,.pv (iV (k:Int)))]) (qx7 g l td tn) (.exit 0) ([(5,.ls 3 l.length)]) (qx7 g l td tn):=
 RunsL.stop [] 300 [.t false] (fun h=>by cases h)
  (Ro (Ai hge tI))
theorem quF {l:List Pt} {g:List Int} {tn td:Int} (hn0:0≤(l.length:Int)) (hn1:(l.length:Int)≤1000000) (r0:Rl 1 1 74 0 35 4 ([(2,.pp 1 0),(3,.pp 2 0),(5,.ls 3 l.length),(6,.pv (iV ((0:Nat):Int)))]) ([(1,0,.ls 0 l.length),(0,0,qad l),(2,0,.pv (iV tn)),(2,1,.pv (iV td)),(3,0,.row 3 1 l.length (qfz (List.replicate l.length (0:Int))))]) (.exit 0) ([(5,.ls 3 l.length)]) (qx7 g l td tn)) :
 Fn 74 1 [qaq 0 l,.pv (qaa tn td)] [(0,0,qad l)] (.ls 1 l.length) 1 [(1,0,.row 3 1 l.length (qfz g))]:=
 Fz [(1,3)] [Lf r0]
  (qaH (qaF [(1,3)]) [(1,0,.row 3 1 l.length (qfz g))]) (Ai hn0 (Ai (Eq.refl (l.length:Int)) (Ai hn1 (Ai (Lt r0 []) (Ai (Ai (Er (SV.ls 0 l.length)) (Ai (Er (qad l)) (Ai (Er (SV.pv (iV tn))) (Ai (Er (SV.pv (iV td))) (Ai (qsa l.length) tI))))) (Ai r0 tI))))))
end Go.Proofs.YtleaeldgaflmkaaGreat

namespace Go.Proofs.YtleaeldgaflmkaaGreat
set_option maxRecDepth 100000
open Go.RowKit
theorem ql9 {l:List Pt} {k:Nat} {p:Pt} {id:Int} (hk:l[k]?=some p) (hin:0≤(k:Int)∧(k:Int)<(l.length:Int)) (hlt:decide ((k:Int)<(l.length:Int))=true) (he:(p.id==id)=false) (hs:iV (IntKind.i64.wrap ((k:Int)+1))=iV (((k+1:Nat):Int))) {e:Exit} {tm2:TmL} {hp2:HpL}
 (r:Rl 1 1 76 0 22 2 ([(1,.pv (iV id)),(2,.pp 1 0),(5,.pv (iV ((k+1:Nat):Int)))]) ([(1,0,.ls 0 l.length),(0,0,qad l)]) e tm2 hp2):Rl 1 1 76 0 22 2 ([(1,.pv (iV id)),(2,.pp 1 0),(5,.pv (iV (k:Int)))]) ([(1,0,.ls 0 l.length),(0,0,qad l)]) e tm2 hp2:=
 RunsL.next [] 300 [.t true,.r (iV p.id),.t false,Re hs]
  (Ro (Ai hlt (Ai hin (Ai (qbB hk) (Ai he (Ai hs tI)))))) r
theorem qvQ {l:List Pt} {k:Nat} {p:Pt} {id:Int} (hk:l[k]?=some p) (hin:0≤(k:Int)∧(k:Int)<(l.length:Int)) (hlt:decide ((k:Int)<(l.length:Int))=true) (he:(p.id==id)=true):Rl 1 1 76 0 22 2 ([(1,.pv (iV id)),(2,.pp 1 0),(5,.pv (iV (k:Int)))]) ([(1,0,.ls 0 l.length),(0,0,qad l)]) (.ret) ([(4,.pv (iV (k:Int)))]) ([]):=
 RunsL.stop [] 300 [.t true,.r (iV p.id),.t true] (fun h=>by cases h)
  (Ro (Ai hlt (Ai hin (Ai (qbB hk) (Ai he tI)))))
theorem qwV {l:List Pt} {k:Nat} {id:Int} (hge:decide ((k:Int)<(l.length:Int))=false):Rl 1 1 76 0 22 2 ([(1,.pv (iV id)),(2,.pp 1 0),(5,.pv (iV (k:Int)))]) ([(1,0,.ls 0 l.length),(0,0,qad l)]) (.exit 0) ([]) ([]):=
 RunsL.stop [] 300 [.t false] (fun h=>by cases h)
  (Ro (Ai hge tI))
theorem qy2 {l:List Pt} {id:Int} (r0:Rl 1 1 76 0 22 2 ([(1,.pv (iV id)),(2,.pp 1 0),(5,.pv (iV ((0:Nat):Int)))]) ([(1,0,.ls 0 l.length),(0,0,qad l)]) (.exit 0) ([]) ([])) :
 Fn 76 1 [qaq 0 l,.pv (iV (id))] [(0,0,qad l)] (.pv (iV (-1))) 0 []:=
 Fz [] [Lf r0]
  tI (Lo r0 [] tI)
theorem qxD {l:List Pt} {k:Nat} {id:Int} (r0:Rl 1 1 76 0 22 2 ([(1,.pv (iV id)),(2,.pp 1 0),(5,.pv (iV ((0:Nat):Int)))]) ([(1,0,.ls 0 l.length),(0,0,qad l)]) (.ret) ([(4,.pv (iV (k:Int)))]) ([])) :
 Fn 76 1 [qaq 0 l,.pv (iV (id))] [(0,0,qad l)] (.pv (iV (k:Int))) 0 []:=
 Fz [] [Lf r0]
  tI (Lo r0 [] tI)
theorem qui {l:List Pt} {pi pa pb:Int} {e:Int} (hc:Fn 44 1 [qaq 0 l] [(0,0,qad l)] (.pv (iV (e))) 0 []) (he:(e !=0)=true) :
 Fn 116 1 [qaq 0 l,.pv (qab pi pa pb)] [(0,0,qad l)] (.pv (iV (e))) 0 []:=
 Fz [] [Cf hc [0],.t true]
  tI (Co hc [0] 3 (Ai he tI))
theorem qrf {l:List Pt} {pi pa pb:Int} {e:Int} (hc:Fn 44 1 [qaq 0 l] [(0,0,qad l)] (.pv (iV (0))) 0 []) (hp:Pure Tryz.prog 60 #[qab pi pa pb] (iV (e))) :
 Fn 116 1 [qaq 0 l,.pv (qab pi pa pb)] [(0,0,qad l)] (.pv (iV (e))) 0 []:=
 Fz [] [Cf hc [0],.k,Rf hp]
  tI (Co hc [0] 3 (Ai hp tI))
theorem quN {l:List Pt} {tn td:Int} {e:Int} (hc:Fn 44 1 [qaq 0 l] [(0,0,qad l)] (.pv (iV (e))) 0 []) (he:(e !=0)=true) :
 Fn 55 1 [qaq 0 l,.pv (qaa tn td)] [(0,0,qad l)] (.pv (iV (e))) 0 []:=
 Fz [] [Cf hc [0],.t true]
  tI (Co hc [0] 3 (Ai he tI))
theorem qrm {l:List Pt} {tn td:Int} {e:Int} (hc:Fn 44 1 [qaq 0 l] [(0,0,qad l)] (.pv (iV (0))) 0 []) (ht:Pure Tryz.prog 61 #[qaa tn td] (iV (e))) :
 Fn 55 1 [qaq 0 l,.pv (qaa tn td)] [(0,0,qad l)] (.pv (iV (e))) 0 []:=
 Fz [] [Cf hc [0],.k,Rf ht]
  tI (Co hc [0] 3 (Ai ht tI))
end Go.Proofs.YtleaeldgaflmkaaGreat

namespace Go.Proofs.YtleaeldgaflmkaaGreat
set_option maxRecDepth 100000
open Go.RowKit
theorem qjj {l:List Pt} {k:Nat} {p:Pt} (hk:l[k]?=some p) (hin:0≤(k:Int)∧(k:Int)<(l.length:Int)) (hlt:decide ((k:Int)<(l.length:Int))=true) (hc:Pure Tryz.prog 30 #[qab p.id p.a p.b] (iV (0))) (hs:iV (IntKind.i64.wrap ((k:Int)+1))=iV (((k+1:Nat):Int))) {e:Exit} {tm2:TmL} {hp2:HpL}
 (r:Rl 1 1 50 0 44 2 ([(1,.pp 1 0),(3,.pv (iV ((k+1:Nat):Int)))]) ([(1,0,.ls 0 l.length),(0,0,qad l)]) e tm2 hp2):Rl 1 1 50 0 44 2 ([(1,.pp 1 0),(3,.pv (iV (k:Int)))]) ([(1,0,.ls 0 l.length),(0,0,qad l)]) e tm2 hp2:=
 RunsL.next [] 300 [.t true,.r (ptV p),Rf hc,.k,Re hs]
  (Ro (Ai hlt (Ai hin (Ai (qaY hk) (Ai hc (Ai hs tI)))))) r
theorem qsB {l:List Pt} {k:Nat} {p:Pt} (hk:l[k]?=some p) (hin:0≤(k:Int)∧(k:Int)<(l.length:Int)) (hlt:decide ((k:Int)<(l.length:Int))=true) (hc:Pure Tryz.prog 30 #[qab p.id p.a p.b] (iV (8))):Rl 1 1 50 0 44 2 ([(1,.pp 1 0),(3,.pv (iV (k:Int)))]) ([(1,0,.ls 0 l.length),(0,0,qad l)]) (.ret) ([(2,.pv (iV 8))]) ([]):=
 RunsL.stop [] 300 [.t true,.r (ptV p),Rf hc,.k] (fun h=>by cases h)
  (Ro (Ai hlt (Ai hin (Ai (qaY hk) (Ai hc tI)))))
theorem qsG {l:List Pt} {k:Nat} (hge:decide ((k:Int)<(l.length:Int))=false):Rl 1 1 50 0 44 2 ([(1,.pp 1 0),(3,.pv (iV (k:Int)))]) ([(1,0,.ls 0 l.length),(0,0,qad l)]) (.exit 0) ([(1,.pp 1 0)]) ([(1,0,.ls 0 l.length),(0,0,qad l)]):=
 RunsL.stop [] 300 [.t false] (fun h=>by cases h)
  (Ro (Ai hge tI))
theorem qjd {l:List Pt} {k:Nat} {p q:Pt} (hq:l[k]?=some q) (hk:l[k+1]?=some p) (hi0:0≤(k:Int)∧(k:Int)<(l.length:Int)) (hi1:0≤((k+1:Nat):Int)∧((k+1:Nat):Int)<(l.length:Int)) (hlt:decide (((k+1:Nat):Int)<(l.length:Int))=true) (hm:iV (IntKind.i64.wrap (((k+1:Nat):Int)-1))=iV (k:Int)) (hg:decide (q.id≥p.id)=false) (hs:iV (IntKind.i64.wrap (((k+1:Nat):Int)+1))=iV (((k+1+1:Nat):Int))) {e:Exit} {tm2:TmL} {hp2:HpL}
 (r:Rl 1 1 50 1 44 2 ([(1,.pp 1 0),(4,.pv (iV ((k+1+1:Nat):Int)))]) ([(1,0,.ls 0 l.length),(0,0,qad l)]) e tm2 hp2):Rl 1 1 50 1 44 2 ([(1,.pp 1 0),(4,.pv (iV ((k+1:Nat):Int)))]) ([(1,0,.ls 0 l.length),(0,0,qad l)]) e tm2 hp2:=
 RunsL.next [] 300 [.t true,.r (iV (k:Int)),.r (iV q.id),.r (iV p.id),.t false,.r (iV (((k+1+1:Nat):Int)))]
  (Ro (Ai hlt (Ai hm (Ai hi0 (Ai (qbB hq) (Ai hi1 (Ai (qbB hk) (Ai hg (Ai hs tI))))))))) r
theorem qub {l:List Pt} {k:Nat} {p q:Pt} (hq:l[k]?=some q) (hk:l[k+1]?=some p) (hi0:0≤(k:Int)∧(k:Int)<(l.length:Int)) (hi1:0≤((k+1:Nat):Int)∧((k+1:Nat):Int)<(l.length:Int)) (hlt:decide (((k+1:Nat):Int)<(l.length:Int))=true) (hm:iV (IntKind.i64.wrap (((k+1:Nat):Int)-1))=iV (k:Int)) (hg:decide (q.id≥p.id)=true):Rl 1 1 50 1 44 2 ([(1,.pp 1 0),(4,.pv (iV ((k+1:Nat):Int)))]) ([(1,0,.ls 0 l.length),(0,0,qad l)]) (.ret) ([(2,.pv (iV 32))]) ([]):=
 RunsL.stop [] 300 [.t true,.r (iV (k:Int)),.r (iV q.id),.r (iV p.id),.t true] (fun h=>by cases h)
  (Ro (Ai hlt (Ai hm (Ai hi0 (Ai (qbB hq) (Ai hi1 (Ai (qbB hk) (Ai hg tI))))))))
theorem qom {l:List Pt} {k:Nat} (hge:decide (((k:Nat):Int)<(l.length:Int))=false):Rl 1 1 50 1 44 2 ([(1,.pp 1 0),(4,.pv (iV ((k:Nat):Int)))]) ([(1,0,.ls 0 l.length),(0,0,qad l)]) (.exit 2) ([]) ([]):=
 RunsL.stop [] 300 [.t false] (fun h=>by cases h)
  (Ro (Ai hge tI))
theorem qsc {l:List Pt} (h64:decide ((l.length:Int)>64)=true) :
 Fn 50 1 [qaq 0 l] [(0,0,qad l)] (.pv (iV 4)) 0 []:=
 Fz [] [.t true]
  tI (Ai h64 tI)
theorem qvy {l:List Pt} (h64:decide ((l.length:Int)>64)=false) (r0:Rl 1 1 50 0 44 2 ([(1,.pp 1 0),(3,.pv (iV (((0:Nat):Int):Int)))]) ([(1,0,.ls 0 l.length),(0,0,qad l)]) (.ret) ([(2,.pv (iV 8))]) ([])) :
 Fn 50 1 [qaq 0 l] [(0,0,qad l)] (.pv (iV 8)) 0 []:=
 Fz [] [.t false,Lf r0]
  tI (Ai h64 (Lo r0 [] tI))
abbrev qAM (l:List Pt):Prop:=Rl 1 1 50 0 44 2 ([(1,.pp 1 0),(3,.pv (iV (((0:Nat):Int):Int)))]) ([(1,0,.ls 0 l.length),(0,0,qad l)]) (.exit 0) ([(1,.pp 1 0)]) ([(1,0,.ls 0 l.length),(0,0,qad l)])
theorem qvR {l:List Pt} (h64:decide ((l.length:Int)>64)=false) (r0:qAM l) (r1:Rl 1 1 50 1 44 2 ([(1,.pp 1 0),(4,.pv (iV (((0+1:Nat):Int):Int)))]) ([(1,0,.ls 0 l.length),(0,0,qad l)]) (.ret) ([(2,.pv (iV 32))]) ([])) :
 Fn 50 1 [qaq 0 l] [(0,0,qad l)] (.pv (iV 32)) 0 []:=
 Fz [] [.t false,Lf r0,Lf r1]
  tI (Ai h64 (Lo r0 [] (Lo r1 [] tI)))
theorem qyf {l:List Pt} (h64:decide ((l.length:Int)>64)=false) (r0:qAM l) (r1:Rl 1 1 50 1 44 2 ([(1,.pp 1 0),(4,.pv (iV (((0+1:Nat):Int):Int)))]) ([(1,0,.ls 0 l.length),(0,0,qad l)]) (.exit 2) ([]) ([])) :
 Fn 50 1 [qaq 0 l] [(0,0,qad l)] (.pv (iV 0)) 0 []:=
 Fz [] [.t false,Lf r0,Lf r1]
  tI (Ai h64 (Lo r0 [] (Lo r1 [] tI)))
end Go.Proofs.YtleaeldgaflmkaaGreat

namespace Go.Proofs.YtleaeldgaflmkaaGreat
set_option maxRecDepth 100000
open Go.RowKit
abbrev qz3 (k:Nat) (l:List Pt):TmL:=[(1,.pp 1 0),(12,.ls 0 l.length),(13,.pv (iV (l.length:Int))),(14,.pv (iV (k:Int)))]
theorem qj9 {l:List Pt} {k:Nat} {p:Pt} (hk:l[k]?=some p) (hin:0≤(k:Int)∧(k:Int)<(l.length:Int)) (hlt:decide ((k:Int)<(l.length:Int))=true) (hc:Pure Tryz.prog 60 #[qab p.id p.a p.b] (iV (0))) (hs:iV (IntKind.i64.wrap ((k:Int)+1))=iV (((k+1:Nat):Int))) {e:Exit} {tm2:TmL} {hp2:HpL}
 (r:Rl 1 1 44 0 45 2 ([(1,.pp 1 0),(12,.ls 0 l.length),(13,.pv (iV (l.length:Int))),(14,.pv (iV ((k+1:Nat):Int)))]) ([(1,0,.ls 0 l.length),(0,0,qad l)]) e tm2 hp2):Rl 1 1 44 0 45 2 (qz3 k l) ([(1,0,.ls 0 l.length),(0,0,qad l)]) e tm2 hp2:=
 RunsL.next [] 300 [.t true,.r (ptV p),Rf hc,.k,Re hs]
  (Ro (Ai hlt (Ai hin (Ai (qaY hk) (Ai hc (Ai hs tI)))))) r
theorem qs7 {l:List Pt} {k:Nat} {p:Pt} (hk:l[k]?=some p) (hin:0≤(k:Int)∧(k:Int)<(l.length:Int)) (hlt:decide ((k:Int)<(l.length:Int))=true) (hc:Pure Tryz.prog 60 #[qab p.id p.a p.b] (iV (8))):Rl 1 1 44 0 45 2 (qz3 k l) ([(1,0,.ls 0 l.length),(0,0,qad l)]) (.ret) ([(2,.pv (iV 8))]) ([]):=
 RunsL.stop [] 300 [.t true,.r (ptV p),Rf hc,.k] (fun h=>by cases h)
  (Ro (Ai hlt (Ai hin (Ai (qaY hk) (Ai hc tI)))))
theorem qtZ {l:List Pt} {k:Nat} (hge:decide ((k:Int)<(l.length:Int))=false):Rl 1 1 44 0 45 2 (qz3 k l) ([(1,0,.ls 0 l.length),(0,0,qad l)]) (.exit 0) ([(1,.pp 1 0)]) ([(1,0,.ls 0 l.length),(0,0,qad l)]):=
 RunsL.stop [] 300 [.t false] (fun h=>by cases h)
  (Ro (Ai hge tI))
theorem qja {l:List Pt} {k:Nat} {p q:Pt} (hq:l[k]?=some q) (hk:l[k+1]?=some p) (hi0:0≤(k:Int)∧(k:Int)<(l.length:Int)) (hi1:0≤((k+1:Nat):Int)∧((k+1:Nat):Int)<(l.length:Int)) (hlt:decide (((k+1:Nat):Int)<(l.length:Int))=true) (hm:iV (IntKind.i64.wrap (((k+1:Nat):Int)-1))=iV (k:Int)) (hg:decide (q.id≥p.id)=false) (hs:iV (IntKind.i64.wrap (((k+1:Nat):Int)+1))=iV (((k+1+1:Nat):Int))) {e:Exit} {tm2:TmL} {hp2:HpL}
 (r:Rl 1 1 44 1 45 2 ([(1,.pp 1 0),(6,.pv (iV ((k+1+1:Nat):Int)))]) ([(1,0,.ls 0 l.length),(0,0,qad l)]) e tm2 hp2):Rl 1 1 44 1 45 2 ([(1,.pp 1 0),(6,.pv (iV ((k+1:Nat):Int)))]) ([(1,0,.ls 0 l.length),(0,0,qad l)]) e tm2 hp2:=
 RunsL.next [] 300 [.t true,.r (iV (k:Int)),.r (iV q.id),.r (iV p.id),.t false,.r (iV (((k+1+1:Nat):Int)))]
  (Ro (Ai hlt (Ai hm (Ai hi0 (Ai (qbB hq) (Ai hi1 (Ai (qbB hk) (Ai hg (Ai hs tI))))))))) r
theorem quH {l:List Pt} {k:Nat} {p q:Pt} (hq:l[k]?=some q) (hk:l[k+1]?=some p) (hi0:0≤(k:Int)∧(k:Int)<(l.length:Int)) (hi1:0≤((k+1:Nat):Int)∧((k+1:Nat):Int)<(l.length:Int)) (hlt:decide (((k+1:Nat):Int)<(l.length:Int))=true) (hm:iV (IntKind.i64.wrap (((k+1:Nat):Int)-1))=iV (k:Int)) (hg:decide (q.id≥p.id)=true):Rl 1 1 44 1 45 2 ([(1,.pp 1 0),(6,.pv (iV ((k+1:Nat):Int)))]) ([(1,0,.ls 0 l.length),(0,0,qad l)]) (.ret) ([(2,.pv (iV 32))]) ([]):=
 RunsL.stop [] 300 [.t true,.r (iV (k:Int)),.r (iV q.id),.r (iV p.id),.t true] (fun h=>by cases h)
  (Ro (Ai hlt (Ai hm (Ai hi0 (Ai (qbB hq) (Ai hi1 (Ai (qbB hk) (Ai hg tI))))))))
theorem qn3 {l:List Pt} {k:Nat} (hge:decide ((k:Int)<(l.length:Int))=false):Rl 1 1 44 1 45 2 ([(1,.pp 1 0),(6,.pv (iV ((k:Nat):Int)))]) ([(1,0,.ls 0 l.length),(0,0,qad l)]) (.exit 2) ([]) ([]):=
 RunsL.stop [] 300 [.t false] (fun h=>by cases h)
  (Ro (Ai hge tI))
theorem qsi {l:List Pt} (h64:decide ((l.length:Int)>64)=true) :
 Fn 44 1 [qaq 0 l] [(0,0,qad l)] (.pv (iV (4))) 0 []:=
 Fz [] [.t true]
  tI (Ai h64 tI)
theorem qwN {l:List Pt} (h64:decide ((l.length:Int)>64)=false) (r0:Rl 1 1 44 0 45 2 ([(1,.pp 1 0),(12,.ls 0 l.length),(13,.pv (iV (l.length:Int))),(14,.pv (iV ((0:Nat):Int)))]) ([(1,0,.ls 0 l.length),(0,0,qad l)]) (.ret) ([(2,.pv (iV 8))]) ([])) :
 Fn 44 1 [qaq 0 l] [(0,0,qad l)] (.pv (iV (8))) 0 []:=
 Fz [] [.t false,Lf r0]
  tI (Ai h64 (Lo r0 [] tI))
abbrev qAI (l:List Pt):Prop:=Rl 1 1 44 0 45 2 ([(1,.pp 1 0),(12,.ls 0 l.length),(13,.pv (iV (l.length:Int))),(14,.pv (iV ((0:Nat):Int)))]) ([(1,0,.ls 0 l.length),(0,0,qad l)]) (.exit 0) ([(1,.pp 1 0)]) ([(1,0,.ls 0 l.length),(0,0,qad l)])
theorem qvP {l:List Pt} (h64:decide ((l.length:Int)>64)=false) (r0:qAI l) (r1:Rl 1 1 44 1 45 2 ([(1,.pp 1 0),(6,.pv (iV ((0+1:Nat):Int)))]) ([(1,0,.ls 0 l.length),(0,0,qad l)]) (.ret) ([(2,.pv (iV 32))]) ([])) :
 Fn 44 1 [qaq 0 l] [(0,0,qad l)] (.pv (iV (32))) 0 []:=
 Fz [] [.t false,Lf r0,Lf r1]
  tI (Ai h64 (Lo r0 [] (Lo r1 [] tI)))
theorem qzx {l:List Pt} (h64:decide ((l.length:Int)>64)=false) (r0:qAI l) (r1:Rl 1 1 44 1 45 2 ([(1,.pp 1 0),(6,.pv (iV ((0+1:Nat):Int)))]) ([(1,0,.ls 0 l.length),(0,0,qad l)]) (.exit 2) ([]) ([])) :
 Fn 44 1 [qaq 0 l] [(0,0,qad l)] (.pv (iV (0))) 0 []:=
 Fz [] [.t false,Lf r0,Lf r1]
  tI (Ai h64 (Lo r0 [] (Lo r1 [] tI)))
end Go.Proofs.YtleaeldgaflmkaaGreat

namespace Go.Proofs.YtleaeldgaflmkaaGreat
set_option maxRecDepth 100000
open Go.RowKit
theorem vpl {tn td n1 d1 e:Int} {p:Pt} (c1:Pure Tryz.prog 105 #[qab p.id p.a p.b,qaa tn td] (.tuple #[qaa n1 d1,iV e])) :
 Pure Tryz.prog 75 #[qab p.id p.a p.b,qaa tn td] (qaa n1 d1):=
 qac (args:=[qab p.id p.a p.b,qaa tn td]) 300 [Rf c1]
  (Ai rfl (Ai c1 tI)) (by kernel_rfl)
theorem qyM {tn td n1 d1 n2 d2 n3 d3 bn e:Int} {p q:Pt} (c1:Pure Tryz.prog 75 #[qab p.id p.a p.b,qaa tn td] (qaa n1 d1)) (c2:Pure Tryz.prog 75 #[qab q.id q.a q.b,qaa tn td] (qaa n2 d2)) (c3:Pure Tryz.prog 38 #[qaa n1 d1,qaa n2 d2] (.tuple #[qaa n3 d3,iV e])) (h0:decide (n3<0)=true) (hn:iV (IntKind.i64.wrap (0-n3))=iV (bn)) :
 Pure Tryz.prog 106 #[qab p.id p.a p.b,qab q.id q.a q.b,qaa tn td] (qaa bn d3):=
 qac (args:=[qab p.id p.a p.b,qab q.id q.a q.b,qaa tn td]) 300 [.md,Rf c1,Rf c2,Rf c3,.t true,Re hn]
  (Ai rfl (Ai c1 (Ai c2 (Ai c3 (Ai h0 (Ai hn tI)))))) (by kernel_rfl)
theorem qzS {tn td n1 d1 n2 d2 n3 d3 e:Int} {p q:Pt} (c1:Pure Tryz.prog 75 #[qab p.id p.a p.b,qaa tn td] (qaa n1 d1)) (c2:Pure Tryz.prog 75 #[qab q.id q.a q.b,qaa tn td] (qaa n2 d2)) (c3:Pure Tryz.prog 38 #[qaa n1 d1,qaa n2 d2] (.tuple #[qaa n3 d3,iV e])) (h0:decide (n3<0)=false) :
 Pure Tryz.prog 106 #[qab p.id p.a p.b,qab q.id q.a q.b,qaa tn td] (qaa n3 d3):=
 qac (args:=[qab p.id p.a p.b,qab q.id q.a q.b,qaa tn td]) 300 [.md,Rf c1,Rf c2,Rf c3,.t false]
  (Ai rfl (Ai c1 (Ai c2 (Ai c3 (Ai h0 tI))))) (by kernel_rfl)
abbrev qoR (bd:Int) (bn:Int) (s:List Pt) (td:Int) (tn:Int):HpL:=[(1,0,.ls 0 s.length),(2,0,.pv (iV tn)),(2,1,.pv (iV td)),(3,0,.pv (iV 0)),(3,1,.pv (iV 0)),(4,0,.pv (iV bn)),(4,1,.pv (iV bd)),(0,0,qad s)]
abbrev qzO (a:Nat) (b:Nat) (i:Nat) (j:Nat):TmL:=[(2,.pp 1 0),(3,.pp 2 0),(4,.pv (iV 0)),(5,.pv (iV 0)),(6,.pp 3 0),(7,.pv (iV (i:Int))),(8,.pv (iV (j:Int))),(9,.pp 4 0),(10,.pv (iV (a:Int))),(11,.pv (iV (b:Int)))]
abbrev qAD (d1:Int) (n1:Int) (s:List Pt) (td:Int) (tn:Int):HpL:=[(1,0,.ls 0 s.length),(2,0,.pv (iV tn)),(2,1,.pv (iV td)),(3,0,.pv (iV 0)),(3,1,.pv (iV 0)),(4,0,.pv (iV n1)),(4,1,.pv (iV d1)),(0,0,qad s)]
theorem qqd {tn td n1 d1 bn bd e1:Int} {s:List Pt} {p q:Pt} {i j a b:Nat} (hlt:decide ((b:Int)<(s.length:Int))=true) (ia:0≤(a:Int)∧(a:Int)<(s.length:Int)) (ib:0≤(b:Int)∧(b:Int)<(s.length:Int)) (hp:s[a]?=some p) (hq:s[b]?=some q) (cd:Pure Tryz.prog 106 #[qab p.id p.a p.b,qab q.id q.a q.b,qaa tn td] (qaa n1 d1)) (cc:Pure Tryz.prog 33 #[qaa n1 d1,qaa bn bd] (iV (e1))) (hc:decide (e1<0)=true) (hs:iV (IntKind.i64.wrap ((b:Int)+1))=iV (((b+1:Nat):Int))) {e:Exit} {tm2:TmL} {hp2:HpL}
 (r:Rl 1 1 77 1 71 5 ([(2,.pp 1 0),(3,.pp 2 0),(4,.pv (iV 0)),(5,.pv (iV 0)),(6,.pp 3 0),(7,.pv (iV (a:Int))),(8,.pv (iV (b:Int))),(9,.pp 4 0),(10,.pv (iV (a:Int))),(11,.pv (iV ((b+1:Nat):Int)))]) (qAD d1 n1 s td tn) e tm2 hp2):Rl 1 1 77 1 71 5 (qzO a b i j) (qoR bd bn s td tn) e tm2 hp2:=
 RunsL.next [] 300 [.t true,.md,.r (ptV p),.r (ptV q),Rf cd,Rf cc,.t true,.md,Re hs]
  (Ro (Ai hlt (Ai ia (Ai (qaY hp) (Ai ib (Ai (qaY hq) (Ai cd (Ai cc (Ai hc (Ai hs tI)))))))))) r
theorem qpA {tn td n1 d1 bn bd e1:Int} {s:List Pt} {p q:Pt} {i j a b:Nat} (hlt:decide ((b:Int)<(s.length:Int))=true) (ia:0≤(a:Int)∧(a:Int)<(s.length:Int)) (ib:0≤(b:Int)∧(b:Int)<(s.length:Int)) (hp:s[a]?=some p) (hq:s[b]?=some q) (cd:Pure Tryz.prog 106 #[qab p.id p.a p.b,qab q.id q.a q.b,qaa tn td] (qaa n1 d1)) (cc:Pure Tryz.prog 33 #[qaa n1 d1,qaa bn bd] (iV (e1))) (hc:decide (e1<0)=false) (hs:iV (IntKind.i64.wrap ((b:Int)+1))=iV (((b+1:Nat):Int))) {e:Exit} {tm2:TmL} {hp2:HpL}
 (r:Rl 1 1 77 1 71 5 ([(2,.pp 1 0),(3,.pp 2 0),(4,.pv (iV 0)),(5,.pv (iV 0)),(6,.pp 3 0),(7,.pv (iV (i:Int))),(8,.pv (iV (j:Int))),(9,.pp 4 0),(10,.pv (iV (a:Int))),(11,.pv (iV ((b+1:Nat):Int)))]) (qoR bd bn s td tn) e tm2 hp2):Rl 1 1 77 1 71 5 (qzO a b i j) (qoR bd bn s td tn) e tm2 hp2:=
 RunsL.next [] 300 [.t true,.md,.r (ptV p),.r (ptV q),Rf cd,Rf cc,.t false,Re hs]
  (Ro (Ai hlt (Ai ia (Ai (qaY hp) (Ai ib (Ai (qaY hq) (Ai cd (Ai cc (Ai hc (Ai hs tI)))))))))) r
abbrev qzE (a:Nat) (i:Nat) (j:Nat):TmL:=[(2,.pp 1 0),(3,.pp 2 0),(4,.pv (iV 0)),(5,.pv (iV 0)),(6,.pp 3 0),(7,.pv (iV (i:Int))),(8,.pv (iV (j:Int))),(9,.pp 4 0),(10,.pv (iV (a:Int)))]
theorem qqX {tn td bn bd:Int} {s:List Pt} {i j a b:Nat} (hlt:decide ((b:Int)<(s.length:Int))=false):Rl 1 1 77 1 71 5 (qzO a b i j) (qoR bd bn s td tn) (.exit 2) (qzE a i j) (qoR bd bn s td tn):=
 RunsL.stop [] 300 [.t false] (fun h=>by cases h)
  (Ro (Ai hlt tI))
abbrev qAP (d2:Int) (n2:Int) (s:List Pt) (td:Int) (tn:Int):HpL:=[(1,0,.ls 0 s.length),(2,0,.pv (iV tn)),(2,1,.pv (iV td)),(3,0,.pv (iV 0)),(3,1,.pv (iV 0)),(4,0,.pv (iV n2)),(4,1,.pv (iV d2)),(0,0,qad s)]
theorem qp2 {i2 j2:Nat} {tn td n2 d2 bn bd:Int} {s:List Pt} {i j a:Nat} (hlt:decide ((a:Int)<(s.length:Int))=true) (ha:iV (IntKind.i64.wrap ((a:Int)+1))=iV (((a+1:Nat):Int))) (r0:Rl 1 1 77 1 71 5 ([(2,.pp 1 0),(3,.pp 2 0),(4,.pv (iV 0)),(5,.pv (iV 0)),(6,.pp 3 0),(7,.pv (iV (i:Int))),(8,.pv (iV (j:Int))),(9,.pp 4 0),(10,.pv (iV (a:Int))),(11,.pv (iV ((a+1:Nat):Int)))]) (qoR bd bn s td tn) (.exit 2) ([(2,.pp 1 0),(3,.pp 2 0),(4,.pv (iV 0)),(5,.pv (iV 0)),(6,.pp 3 0),(7,.pv (iV (i2:Int))),(8,.pv (iV (j2:Int))),(9,.pp 4 0),(10,.pv (iV (a:Int)))]) (qAP d2 n2 s td tn)) (hb:iV (IntKind.i64.wrap ((a:Int)+1))=iV (((a+1:Nat):Int))) {e:Exit} {tm2:TmL} {hp2:HpL}
 (r:Rl 1 1 77 0 71 5 ([(2,.pp 1 0),(3,.pp 2 0),(4,.pv (iV 0)),(5,.pv (iV 0)),(6,.pp 3 0),(7,.pv (iV (i2:Int))),(8,.pv (iV (j2:Int))),(9,.pp 4 0),(10,.pv (iV ((a+1:Nat):Int)))]) (qAP d2 n2 s td tn) e tm2 hp2):Rl 1 1 77 0 71 5 (qzE a i j) (qoR bd bn s td tn) e tm2 hp2:=
 RunsL.next [] 300 [.t true,Re ha,Lf r0,Re ha]
  (Ro (Ai hlt (Ai ha (Lo r0 [] (Ai hb tI))))) r
abbrev qAE (i:Nat) (j:Nat):TmL:=[(2,.pp 1 0),(3,.pp 2 0),(4,.pv (iV 0)),(5,.pv (iV 0)),(6,.pp 3 0),(7,.pv (iV (i:Int))),(8,.pv (iV (j:Int))),(9,.pp 4 0)]
theorem quC {tn td bn bd:Int} {s:List Pt} {i j a:Nat} (hlt:decide ((a:Int)<(s.length:Int))=false):Rl 1 1 77 0 71 5 (qzE a i j) (qoR bd bn s td tn) (.exit 0) (qAE i j) (qoR bd bn s td tn):=
 RunsL.stop [] 300 [.t false] (fun h=>by cases h)
  (Ro (Ai hlt tI))
theorem qxf {u v:Pt} {tn td n1 d1 bn bd:Int} {s:List Pt} {p q:Pt} {i j:Nat} (i0:0≤(0:Int)∧(0:Int)<(s.length:Int)) (i1:0≤(1:Int)∧(1:Int)<(s.length:Int)) (h0:s[0]?=some p) (h1:s[1]?=some q) (cd:Pure Tryz.prog 106 #[qab p.id p.a p.b,qab q.id q.a q.b,qaa tn td] (qaa n1 d1)) (r0:Rl 1 1 77 0 71 5 ([(2,.pp 1 0),(3,.pp 2 0),(4,.pv (iV 0)),(5,.pv (iV 0)),(6,.pp 3 0),(7,.pv (iV ((0:Nat):Int))),(8,.pv (iV ((1:Nat):Int))),(9,.pp 4 0),(10,.pv (iV ((0:Nat):Int)))]) (qAD d1 n1 s td tn) (.exit 0) (qAE i j) (qoR bd bn s td tn)) (ii:0≤(i:Int)∧(i:Int)<(s.length:Int)) (ij:0≤(j:Int)∧(j:Int)<(s.length:Int)) (hi:s[i]?=some u) (hj:s[j]?=some v) :
 Fn 77 1 [qaq 0 s,.pv (qaa tn td)] [(0,0,qad s)] (.pv (.tuple #[iV u.id,iV v.id,qaa bn bd])) 0 []:=
 Fz [] [.md,.r (ptV p),.r (ptV q),Rf cd,Lf r0,.md,.r (iV u.id),.r (iV v.id)]
  tI (Ai i0 (Ai (qaY h0) (Ai i1 (Ai (qaY h1) (Ai cd (Lo r0 [] (Ai ii (Ai (qbB hi) (Ai ij (Ai (qbB hj) tI))))))))))
end Go.Proofs.YtleaeldgaflmkaaGreat

namespace Go.Proofs.YtleaeldgaflmkaaGreat
set_option maxRecDepth 100000
open Go.RowKit
theorem qz7 {tn td e1:Int} {s:List Pt} (ha:Pure Tryz.prog 31 #[qaa tn td] (iV (e1))) (he:(e1 !=0)=true) :
 Fn 25 1 [.ag [.pv (iV tn),.pv (iV td),.ls 0 s.length]] [(0,0,qad s)] (.pv (iV (8))) 0 []:=
 Fz [] [Rf ha,.t true]
  tI (Ai ha (Ai he tI))
theorem qyN {tn td e2:Int} {s:List Pt} (ha:Pure Tryz.prog 31 #[qaa tn td] (iV (0))) (hc:Fn 50 1 [qaq 0 s] [(0,0,qad s)] (.pv (iV (e2))) 0 []) (he:(e2 !=0)=true) :
 Fn 25 1 [.ag [.pv (iV tn),.pv (iV td),.ls 0 s.length]] [(0,0,qad s)] (.pv (iV (8))) 0 []:=
 Fz [] [Rf ha,.k,Cf hc [0],.t true]
  tI (Ai ha (Co hc [0] 2 (Ai he tI)))
theorem qAo {tn td:Int} {s:List Pt} (ha:Pure Tryz.prog 31 #[qaa tn td] (iV (0))) (hc:Fn 50 1 [qaq 0 s] [(0,0,qad s)] (.pv (iV (0))) 0 []) :
 Fn 25 1 [.ag [.pv (iV tn),.pv (iV td),.ls 0 s.length]] [(0,0,qad s)] (.pv (iV (0))) 0 []:=
 Fz [] [Rf ha,.k,Cf hc [0],.k]
  tI (Ai ha (Co hc [0] 2 tI))
theorem vtw {tn td:Int} {s:List Pt} (ht:Fn 47 1 [qaq 0 s] [(0,0,qad s)] (.ag [.ls 1 s.length]) 1 [(1,0,qad s)]) :
 Fn 21 1 [.ag [.pv (iV tn),.pv (iV td),.ls 0 s.length]] [(0,0,qad s)] (.ag [.pv (iV tn),.pv (iV td),.ls 1 s.length]) 1 [(1,0,qad s)]:=
 Fz [(1,3)] [.md,Cf ht [0]]
  (qaH (qaF [(1,3)]) [(1,0,qad s)]) (Co ht [0] 3 tI)
end Go.Proofs.YtleaeldgaflmkaaGreat
