/-
  Joined: Cv, Fa, Fi, Fd, Fe, Fg, Fb, Fc, Fq. Conditions: none.
-/
import Derived.Test.YtkckcgpmnipnaaaGreatW26
import Derived.Test.YtkckcgpmnipnaaaGreatW21
import Derived.ProofKit
import Derived.OpenShut
import Derived.Lib.SmallJoins
import Derived.Deep.Slices
import Derived.Deep.Strs
import Derived.Deep.Fields
import Derived.Carry
namespace Go.Proofs.YtkckcgpmnipnaaaGreat
set_option maxRecDepth 100000
open Go.RowKit
theorem qkS {x:Nat} (h:x<18446744073709551616):qiD false x=qav false 0 (x:Int):=by
 unfold qiD
 rw[show x/18446744073709551616=0 by omega,show x%18446744073709551616=x by omega]
 rfl
theorem qoU {a b:Int} (ha:I64 a) (hb:I64 b) (h0:b≠0):∃ N D E,IsRes a b N D E∧Pure Tryz.prog 295 #[.int .i64 a,.int .i64 b] (.tuple #[qaa N D,.int .i64 E]):=by
 have za:=qdJ a ha
 have zb:=qdJ b hb
 unfold I64 at ha hb
 obtain⟨g,hg⟩:∃ g,g=Nat.gcd a.natAbs b.natAbs:=⟨_,rfl⟩
 have g0:0<g:=hg▸Nat.gcd_pos_of_pos_right _ (by omega)
 have gg:=qjr a.natAbs b.natAbs g (by omega) (by omega) hg
 obtain⟨x,hx⟩:∃ x,x=a.natAbs/g:=⟨_,rfl⟩
 obtain⟨y,hy⟩:∃ y,y=b.natAbs/g:=⟨_,rfl⟩
 have ax:a.natAbs=g*x:=by rw[hx,hg];exact (Nat.mul_div_cancel' (Nat.gcd_dvd_left _ _)).symm
 have bY:b.natAbs=g*y:=by rw[hy,hg];exact (Nat.mul_div_cancel' (Nat.gcd_dvd_right _ _)).symm
 have hxy:Nat.gcd x y=1:=by rw[hx,hy,hg];exact Nat.gcd_div_gcd_div_gcd_of_pos_right (by omega)
 have y0:0<y:=by
  rcases Nat.eq_zero_or_pos y with e | e
  ·rw[e,Nat.mul_zero] at bY;omega
  ·exact e
 have lx:=Nat.div_le_self a.natAbs g
 have ly:=Nat.div_le_self b.natAbs g
 rw[← hx] at lx
 rw[← hy] at ly
 have q1:=qHJ (x:=a.natAbs) (y:=g) (by omega)
 have q2:=qHJ (x:=b.natAbs) (y:=g) (by omega)
 rw[← hx] at q1
 rw[← hy] at q2
 have md:∀ neg,Pure Tryz.prog 326 #[.bool neg,qav false 0 (x:Int),qav false 0 (y:Int)] (.tuple #[qaa (qd8 (qbn x&&qbn y) (sgV x neg)) (qd8 (qbn x&&qbn y) (y:Int)),.int .i64 (qm5 (qbn x&&qbn y))]):=by
  intro neg
  have:=qow neg false false x y
  rwa [qkS (by omega),qkS (by omega)] at this
 have fin:∀ (T:Int) (neg:Bool),T.natAbs=x→decide (T<0)=neg→T*b=a*(y:Int)→IsRes a b (qd8 (qbn x&&qbn y) (sgV x neg)) (qd8 (qbn x&&qbn y) (y:Int)) (qm5 (qbn x&&qbn y)):=by
  intro T neg h1 h2 h3
  have:=qkb (p:=a) (q:=b) (T:=T) (U:=(y:Int)) h0 (by omega) (by rw[h1,Int.natAbs_natCast];exact hxy) h3
  rw[h1,h2,Int.natAbs_natCast,df (show ¬ (y:Int)<0 by omega),qxy (fun h=>by simp only[Bool.and_eq_true] at h;simpa [qbn] using h.2)] at this
  exact this
 have gz:¬ (g:Int)=0:=by omega
 have cx:(x:Int)*((g*y:Nat):Int)=((g*x:Nat):Int)*(y:Int):=by rw[← Int.natCast_mul,← Int.natCast_mul];congr 1;rw[Nat.mul_left_comm,Nat.mul_assoc]
 by_cases sa:a<0<;>by_cases sb:b<0
 ·refine⟨_,_,_,fin (x:Int) false (by simp) (df (by omega)) ?_,qom (by simp[h0]) za zb gg (dt sa) (dt sb) gz q1 q2 (md false)⟩
  rw[show b = -((g*y:Nat):Int) by omega,show a = -((g*x:Nat):Int) by omega,Int.mul_neg,Int.neg_mul,cx]
 ·refine⟨_,_,_,fin (-(x:Int)) true (by simp) (dt ?_) ?_,qnB (by simp[h0]) za zb gg (dt sa) (df sb) (by simp;omega) gz q1 q2 (md true)⟩
  ·rcases Nat.eq_zero_or_pos x with e | e
   ·rw[e,Nat.mul_zero] at ax;omega
   ·omega
  ·rw[show b=((g*y:Nat):Int) by omega,show a = -((g*x:Nat):Int) by omega,Int.neg_mul,Int.neg_mul,cx]
 ·by_cases z:a=0
  ·refine⟨_,_,_,fin 0 false ?_ rfl (by rw[z];simp),qnu (by simp[h0]) za zb gg (df sa) (dt sb) (by simp[z]) gz q1 q2 (md false)⟩
   rw[hx,z];simp
  ·refine⟨_,_,_,fin (-(x:Int)) true (by simp) (dt ?_) ?_,qnR (by simp[h0]) za zb gg (df sa) (dt sb) (by simp[z]) gz q1 q2 (md true)⟩
   ·rcases Nat.eq_zero_or_pos x with e | e
    ·rw[e,Nat.mul_zero] at ax;omega
    ·omega
   ·rw[show b = -((g*y:Nat):Int) by omega,show a=((g*x:Nat):Int) by omega,Int.neg_mul_neg,cx]
 ·refine⟨_,_,_,fin (x:Int) false (by simp) (df (by omega)) ?_,qpu (by simp[h0]) za zb gg (df sa) (df sb) gz q1 q2 (md false)⟩
  rw[show b=((g*y:Nat):Int) by omega,show a=((g*x:Nat):Int) by omega,cx]
theorem qz3 {pi pa pb qi qa qb m k:Int} (hp:okP pi pa pb=true) (hq:okP qi qa qb=true) (hb:pb≠qb) (h1:okB m k=true) (h2:I64 m) (h3:I64 k) (h4:m*(pb-qb)=(qa-pa)*k) :
 Pure Tryz.prog 233 #[qab pi pa pb,qab qi qa qb] (qaa m k):=by
 have hp':=qbI.1 hp
 have hq':=qbI.1 hq
 obtain⟨N,D,E,hr,hm⟩:=qoU (a:=pa-qa) (b:=qb-pb) (by unfold I64;omega) (by unfold I64;omega) (by omega)
 obtain⟨rfl,rfl,rfl⟩:=hr.one (by omega) h1 h2 h3 (by
  rw[show qb-pb = -(pb-qb) by omega,show pa-qa = -(qa-pa) by omega,Int.mul_neg,Int.neg_mul,h4])
 exact qq7 (by rw[qap (by omega) (by omega)]) (by rw[qap (by omega) (by omega)]) hm
theorem qgQ {pi pa pb qi qa qb n d:Int} (hn:I64 n) (hd:I64 d) (hp:okP pi pa pb=true) (hq:okP qi qa qb=true) :
 Pure Tryz.prog 90 #[qab pi pa pb,qab qi qa qb,qaa n d] (.bool (qbp (pa*d+pb*n) (qa*d+qb*n) pb qb pi qi)):=by
 have hp':=qbI.1 hp
 have hq':=qbI.1 hq
 have c1:=qb5 (pa-qa) d (by unfold I64;omega) hd
 have c2:=qb5 (pb-qb) n (by unfold I64;omega) hn
 have b1:((pa-qa)*d).natAbs≤2097152*9223372036854775808:=by rw[Int.natAbs_mul];unfold I64 at hd;exact Nat.mul_le_mul (by omega) (by omega)
 have b2:((pb-qb)*n).natAbs≤2097152*9223372036854775808:=by rw[Int.natAbs_mul];unfold I64 at hn;exact Nat.mul_le_mul (by omega) (by omega)
 have c3:=qov ((pa-qa)*d) ((pb-qb)*n) (by omega) (by omega)
 have e:(pa-qa)*d+(pb-qb)*n=pa*d+pb*n-(qa*d+qb*n):=by rw[Int.sub_mul,Int.sub_mul];omega
 rw[e] at c3
 have c4:=qfz (pa*d+pb*n-(qa*d+qb*n))
 have far:=qp6 (pi:=pi) (pa:=pa) (pb:=pb) (qi:=qi) (qa:=qa) (qb:=qb) (by rw[qap (by omega) (by omega)]) c1 (by rw[qap (by omega) (by omega)]) c2 c3 c4
 generalize pa*d+pb*n=P at *
 generalize qa*d+qb*n=Q at *
 rcases Int.lt_trichotomy (P-Q) 0 with h | h | h
 ·rw[Int.sign_eq_neg_one_of_neg h] at far
  rw[qbU (by omega)]
  exact qiN far (by decide) (by decide)
 ·rw[h] at far
  by_cases hb:pb=qb
  ·by_cases hi:pi<qi
   ·rw[qbZ (by omega)];exact qmw far (by decide) (by simp[hb]) (dt hi)
   ·rw[qbU (by omega)];exact qmW far (by decide) (by simp[hb]) (df hi)
  ·by_cases hg:pb>qb
   ·rw[qbZ (by omega)];exact qo9 far (by decide) (by simp[hb]) (dt hg)
   ·rw[qbU (by omega)];exact qnb far (by decide) (by simp[hb]) (df hg)
 ·rw[Int.sign_eq_one_of_pos h] at far
  rw[qbZ (by omega)]
  exact qjC far (by decide) (by decide)
end Go.Proofs.YtkckcgpmnipnaaaGreat

namespace Go.Proofs.YtkckcgpmnipnaaaGreat
set_option maxRecDepth 100000
open Go.RowKit
structure Pt where
 id:Int
 a:Int
 b:Int
abbrev ptV (p:Pt):Value:=qab p.id p.a p.b
def qa3:List Pt→List Value
 | []=>[]
 | p::r=>iV p.id::iV p.a::iV p.b::qa3 r
theorem qcH:∀ (a b:List Pt),qa3 (a++b)=qa3 a++qa3 b
 | [],_=>rfl
 | p::r,b=>by simp[qa3,qcH r b]
theorem qaZ:∀ (l:List Pt),(qa3 l).length=l.length*3
 | []=>rfl
 | p::r=>by simp[qa3,qaZ r];omega
theorem qcC:∀ {l:List Pt} {k:Nat} {p:Pt},l[k]?=some p→(qa3 l)[k*3]?=some (iV p.id)∧(qa3 l)[k*3+1]?=some (iV p.a)∧(qa3 l)[k*3+2]?=some (iV p.b)
 | [],k,p,h=>by simp at h
 | q::r,0,p,h=>by simp at h;subst h;exact⟨rfl,rfl,rfl⟩
 | q::r,k+1,p,h=>by
  have:=qcC (l:=r) (k:=k) (p:=p) (by simpa using h)
  rw[show (k+1)*3=k*3+1+1+1 by omega]
  exact this
theorem qaA {l:List Pt} {k:Nat} {p:Pt} (h:l[k]?=some p):qcO (qa3 l) (0*3+k*3) [iV p.id,iV p.a,iV p.b]:=by
 obtain⟨h1,h2,h3⟩:=qcC h
 intro j v hj
 rw[show 0*3+k*3+j=k*3+j by omega]
 match j,hj with
 | 0,hj=>cases hj;exact h1
 | 1,hj=>cases hj;exact h2
 | 2,hj=>cases hj;exact h3
 | j+3,hj=>simp at hj
theorem qcU {l:List Pt} {k:Nat} {p:Pt} (h:l[k]?=some p):qcO (qa3 l) (0*3+k*3) [iV p.id]:=by
 intro j v hj
 rw[show 0*3+k*3+j=k*3+j by omega]
 match j,hj with
 | 0,hj=>cases hj;exact (qcC h).1
 | j+1,hj=>simp at hj
theorem RunsL.rounds {P:Program} {lo fr:Nat} {c:Code} {n nb:Nat} (tm:Nat→List (Nat×SV)) (hp:Nat→List (Nat×Nat×SV)) {e:Exit} {tm2:TmL} {hp2:HpL} {N:Nat} :
 ∀ (d i:Nat),i+d=N→(∀ j,i≤j→j<N→RunsL P lo fr c n nb (tm (j+1)) (hp (j+1)) e tm2 hp2→RunsL P lo fr c n nb (tm j) (hp j) e tm2 hp2)→RunsL P lo fr c n nb (tm N) (hp N) e tm2 hp2→RunsL P lo fr c n nb (tm i) (hp i) e tm2 hp2
 | 0,i,h,_,last=>by
  have:i=N:=by omega
  subst this;exact last
 | d+1,i,h,step,last=>step i (Nat.le_refl i) (by omega) (RunsL.rounds tm hp d (i+1) (by omega) (fun j h1 h2=>step j (by omega) h2) last)
abbrev qad (l:List Pt):SV:=.row 137 3 l.length (qa3 l)
abbrev qas (b:Nat) (l:List Pt):SV:=.ag [.ls b l.length]
theorem qal {k:Nat} (h:k≤1000000):iV (IntKind.i64.wrap ((k:Int)+1))=iV ((k+1:Nat):Int):=by rw[qap (by omega) (by omega)];rfl
theorem qvS {l:List Pt} (h1:decide ((l.length:Int)>16)=true) (h2:decide ((l.length:Int)<64)=true):Fn 10 1 [qas 0 l] [(0,0,qad l)] (.pv (.bool true)) 0 []:=
 qfD 200 [] [.t true,.t true] tI (Ai h1 (Ai h2 tI)) (by kernel_rfl)
theorem qxk {l:List Pt} (h1:decide ((l.length:Int)>16)=false) (h2:decide ((l.length:Int)>70)=false):Fn 10 1 [qas 0 l] [(0,0,qad l)] (.pv (.bool false)) 0 []:=
 qfD 200 [] [.t false,.t false] tI (Ai h1 (Ai h2 tI)) (by kernel_rfl)
theorem qr1 {l:List Pt} (h1:decide ((l.length:Int)>16)=true) (h2:decide ((l.length:Int)<64)=false) (h3:decide ((l.length:Int)>70)=true):Fn 10 1 [qas 0 l] [(0,0,qad l)] (.pv (.bool true)) 0 []:=
 qfD 200 [] [.t true,.t false,.t true] tI (Ai h1 (Ai h2 (Ai h3 tI))) (by kernel_rfl)
theorem qq3 {l:List Pt} (h1:decide ((l.length:Int)>16)=true) (h2:decide ((l.length:Int)<64)=false) (h3:decide ((l.length:Int)>70)=false):Fn 10 1 [qas 0 l] [(0,0,qad l)] (.pv (.bool false)) 0 []:=
 qfD 200 [] [.t true,.t false,.t false] tI (Ai h1 (Ai h2 (Ai h3 tI))) (by kernel_rfl)
theorem qB1 (l:List Pt):SV.ag [.ls 4 (0+l.length)]=(SV.ag [.ls 1 l.length]).ren (qaK [(1,4)]):=by rw[Nat.zero_add];rfl
theorem qkH (l:List Pt):some (SV.row 137 3 (0+l.length) ([]++qa3 l))=some (qad l):=by rw[Nat.zero_add,List.nil_append]
theorem qg3 (m:List Pt) (p:Pt):qa3 m++[iV p.id,iV p.a,iV p.b]=qa3 (m++[p]):=by rw[qcH];rfl
theorem qeZ:∀ (l:List Pt) (k:Nat),(qa3 l).drop (k*3)=qa3 (l.drop k)
 | l,0=>by simp
 | [],k+1=>by simp[qa3]
 | p::r,k+1=>by rw[show (k+1)*3=k*3+1+1+1 by omega,List.drop_succ_cons];exact qeZ r k
theorem qfy:∀ (l:List Pt) (k:Nat),(qa3 l).take (k*3)=qa3 (l.take k)
 | l,0=>by simp[qa3]
 | [],k+1=>by simp[qa3]
 | p::r,k+1=>by rw[show (k+1)*3=k*3+1+1+1 by omega,List.take_succ_cons];exact congrArg (fun z=>iV p.id::iV p.a::iV p.b::z) (qfy r k)
theorem qv5 (l:List Pt) (k:Nat):((qa3 l).drop ((0+0)*3)).take (k*3)=qa3 (l.take k):=by rw[Nat.zero_add,qeZ,qfy];rfl
theorem qvF (l:List Pt) (k:Nat):((qa3 l).drop ((0+k)*3)).take ((l.length-k)*3)=qa3 (l.drop k):=by rw[Nat.zero_add,qeZ,qfy,List.take_of_length_le (by simp)]
theorem qvB (x:Int):(!(x==x))=false:=by simp
def qGr (l:List Int):List Value:=l.map fun x=>iV x
abbrev qml (l:List Int):SV:=.row 3 1 l.length (qGr l)
theorem qut {l:List Int} {k:Nat} {x:Int} (h:l[k]?=some x):qcO (qGr l) (0*1+k*1) [iV x]:=by
 intro j v hj
 match j,hj with
 | 0,hj=>cases hj;simp[qGr,h]
 | j+1,hj=>simp at hj
theorem qyA (l:List Pt):SV.ls 2 (0+l.length)=(SV.ls 1 l.length).ren (qaK [(1,2)]):=by rw[Nat.zero_add];rfl
end Go.Proofs.YtkckcgpmnipnaaaGreat

namespace Go.Proofs.YtkckcgpmnipnaaaGreat
set_option maxRecDepth 100000
open Go.RowKit
theorem qlp {l:List Pt} (h0:0<l.length) (hn:0+l.length≤1000000) :
 Fn 141 1 [.ls 0 l.length] [(0,0,qad l)] (.ls 1 l.length) 1 [(1,0,qad l)]:=
 Fx [(1,2)] [.t false]
  (qyA l) (Ai (qkH l) tI) (Ai h0 (Ai hn tI))
theorem qxf {ad:Addr} {c:Nat} :
 Fn 141 0 [.pv (.slice (some ad) 0 c)] [] (.ls 0 0) 1 [(0,0,qad ([]:List Pt))]:=
 Fz [(0,1)] [.k]
  (qaE (qaK [(0,1)]) [(0,0,qad ([]:List Pt))]) (Ai (Nat.zero_le _:0+0≤1000000) tI)
theorem qo7 {c:Nat}:Pure Tryz.prog 141 #[.slice none 0 c] (.slice none 0 0):=
 qac (args:=[.slice none 0 c]) 200 [] (Ai rfl tI) (by kernel_rfl)
end Go.Proofs.YtkckcgpmnipnaaaGreat

namespace Go.Proofs.YtkckcgpmnipnaaaGreat
set_option maxRecDepth 100000
open Go.RowKit
theorem qmH {l:List Pt} {k:Nat} {p:Pt} {id:Int} (hk:l[k]?=some p) (hin:0≤(k:Int)∧(k:Int)<(l.length:Int)) (hlt:decide ((k:Int)<(l.length:Int))=true) (he:(p.id==id)=false) (hs:iV (IntKind.i64.wrap ((k:Int)+1))=iV (((k+1:Nat):Int))) {e:Exit} {tm2:TmL} {hp2:HpL}
 (r:Rl 1 1 61 0 22 2 ([(1,.pv (iV id)),(2,.pp 1 0),(5,.pv (iV ((k+1:Nat):Int)))]) ([(1,0,.ls 0 l.length),(0,0,qad l)]) e tm2 hp2):Rl 1 1 61 0 22 2 ([(1,.pv (iV id)),(2,.pp 1 0),(5,.pv (iV (k:Int)))]) ([(1,0,.ls 0 l.length),(0,0,qad l)]) e tm2 hp2:=
 RunsL.next [] 300 [.t true,.r (iV p.id),.t false,Re hs]
  (Ro (Ai hlt (Ai hin (Ai (qcU hk) (Ai he (Ai hs tI)))))) r
theorem qAo {l:List Pt} {k:Nat} {p:Pt} {id:Int} (hk:l[k]?=some p) (hin:0≤(k:Int)∧(k:Int)<(l.length:Int)) (hlt:decide ((k:Int)<(l.length:Int))=true) (he:(p.id==id)=true):Rl 1 1 61 0 22 2 ([(1,.pv (iV id)),(2,.pp 1 0),(5,.pv (iV (k:Int)))]) ([(1,0,.ls 0 l.length),(0,0,qad l)]) (.ret) ([(4,.pv (iV (k:Int)))]) ([]):=
 RunsL.stop [] 300 [.t true,.r (iV p.id),.t true] (fun h=>by cases h)
  (Ro (Ai hlt (Ai hin (Ai (qcU hk) (Ai he tI)))))
theorem qDp {l:List Pt} {k:Nat} {id:Int} (hge:decide ((k:Int)<(l.length:Int))=false):Rl 1 1 61 0 22 2 ([(1,.pv (iV id)),(2,.pp 1 0),(5,.pv (iV (k:Int)))]) ([(1,0,.ls 0 l.length),(0,0,qad l)]) (.exit 0) ([]) ([]):=
 RunsL.stop [] 300 [.t false] (fun h=>by cases h)
  (Ro (Ai hge tI))
theorem qFq {l:List Pt} {id:Int} (r0:Rl 1 1 61 0 22 2 ([(1,.pv (iV id)),(2,.pp 1 0),(5,.pv (iV ((0:Nat):Int)))]) ([(1,0,.ls 0 l.length),(0,0,qad l)]) (.exit 0) ([]) ([])) :
 Fn 61 1 [qas 0 l,.pv (iV (id))] [(0,0,qad l)] (.pv (iV (-1))) 0 []:=
 Fz [] [Lf r0]
  tI (Lo r0 [] tI)
theorem qCx {l:List Pt} {k:Nat} {id:Int} (r0:Rl 1 1 61 0 22 2 ([(1,.pv (iV id)),(2,.pp 1 0),(5,.pv (iV ((0:Nat):Int)))]) ([(1,0,.ls 0 l.length),(0,0,qad l)]) (.ret) ([(4,.pv (iV (k:Int)))]) ([])) :
 Fn 61 1 [qas 0 l,.pv (iV (id))] [(0,0,qad l)] (.pv (iV (k:Int))) 0 []:=
 Fz [] [Lf r0]
  tI (Lo r0 [] tI)
end Go.Proofs.YtkckcgpmnipnaaaGreat

namespace Go.Proofs.YtkckcgpmnipnaaaGreat
set_option maxRecDepth 100000
open Go.RowKit
theorem qoK {l:List Pt} (hn:0+l.length≤1000000) :
 Fn 70 1 [qas 0 l] [(0,0,qad l)] (.ag [.ls 1 l.length]) 1 [(1,0,qad l)]:=
 Fx [(1,4)] []
  (qB1 l) (Ai (qkH l) tI) (Ai hn tI)
abbrev qD5 (l:List Pt) (m:List Pt):HpL:=[(2,0,.ls 0 l.length),(3,0,.ls 1 m.length),(0,0,qad l),(1,0,qad m)]
theorem qnr {l m:List Pt} {k:Nat} {p q:Pt} (hk:l[k]?=some p) (hin:0≤(k:Int)∧(k:Int)<(l.length:Int)) (hq:m[k]?=some q) (hin2:0≤(k:Int)∧(k:Int)<(m.length:Int)) (hlt:decide ((k:Int)<(l.length:Int))=true) (hne:(!(p.id==q.id&&(p.a==q.a&&(p.b==q.b&&true))))=false) (hs:iV (IntKind.i64.wrap ((k:Int)+1))=iV (((k+1:Nat):Int))) {e:Exit} {tm2:TmL} {hp2:HpL}
 (r:Rl 2 2 41 0 31 4 ([(2,.pp 2 0),(3,.pp 3 0),(5,.pv (iV ((k+1:Nat):Int)))]) (qD5 l m) e tm2 hp2):Rl 2 2 41 0 31 4 ([(2,.pp 2 0),(3,.pp 3 0),(5,.pv (iV (k:Int)))]) (qD5 l m) e tm2 hp2:=
 RunsL.next [] 300 [.t true,.r (ptV p),.r (ptV q),.t false,Re hs]
  (Ro (Ai hlt (Ai hin (Ai (qaA hk) (Ai hin2 (Ai (qaA hq) (Ai hne (Ai hs tI)))))))) r
theorem qtJ {l m:List Pt} {k:Nat} (hge:decide ((k:Int)<(l.length:Int))=false):Rl 2 2 41 0 31 4 ([(2,.pp 2 0),(3,.pp 3 0),(5,.pv (iV (k:Int)))]) (qD5 l m) (.exit 0) ([]) ([]):=
 RunsL.stop [] 300 [.t false] (fun h=>by cases h)
  (Ro (Ai hge tI))
theorem qti {l m:List Pt} (hl:(!((l.length:Int)==(m.length:Int)))=false) (r0:Rl 2 2 41 0 31 4 ([(2,.pp 2 0),(3,.pp 3 0),(5,.pv (iV ((0:Nat):Int)))]) (qD5 l m) (.exit 0) ([]) ([])) :
 Fn 41 2 [qas 0 l,qas 1 m] [(0,0,qad l),(1,0,qad m)] (.pv (.bool true)) 0 []:=
 Fz [] [.t false,Lf r0]
  tI (Ai hl (Lo r0 [] tI))
theorem qsD {l m:List Int} {k:Nat} {x y:Int} (hk:l[k]?=some x) (hin:0≤(k:Int)∧(k:Int)<(l.length:Int)) (hq:m[k]?=some y) (hin2:0≤(k:Int)∧(k:Int)<(m.length:Int)) (hlt:decide ((k:Int)<(l.length:Int))=true) (hne:(!(x==y))=false) (hs:iV (IntKind.i64.wrap ((k:Int)+1))=iV (((k+1:Nat):Int))) {e:Exit} {tm2:TmL} {hp2:HpL}
 (r:Rl 2 2 56 0 26 2 ([(0,.ls 0 l.length),(1,.ls 1 m.length),(5,.pv (iV ((k+1:Nat):Int)))]) ([(0,0,qml l),(1,0,qml m)]) e tm2 hp2):Rl 2 2 56 0 26 2 ([(0,.ls 0 l.length),(1,.ls 1 m.length),(5,.pv (iV (k:Int)))]) ([(0,0,qml l),(1,0,qml m)]) e tm2 hp2:=
 RunsL.next [] 300 [.t true,.r (iV x),.r (iV y),.t false,Re hs]
  (Ro (Ai hlt (Ai hin (Ai (qut hk) (Ai hin2 (Ai (qut hq) (Ai hne (Ai hs tI)))))))) r
theorem qu1 {l m:List Int} {k:Nat} (hge:decide ((k:Int)<(l.length:Int))=false):Rl 2 2 56 0 26 2 ([(0,.ls 0 l.length),(1,.ls 1 m.length),(5,.pv (iV (k:Int)))]) ([(0,0,qml l),(1,0,qml m)]) (.exit 0) ([]) ([]):=
 RunsL.stop [] 300 [.t false] (fun h=>by cases h)
  (Ro (Ai hge tI))
theorem qvW {l m:List Int} (hl:(!((l.length:Int)==(m.length:Int)))=false) (r0:Rl 2 2 56 0 26 2 ([(0,.ls 0 l.length),(1,.ls 1 m.length),(5,.pv (iV ((0:Nat):Int)))]) ([(0,0,qml l),(1,0,qml m)]) (.exit 0) ([]) ([])) :
 Fn 56 2 [.ls 0 l.length,.ls 1 m.length] [(0,0,qml l),(1,0,qml m)] (.pv (.bool true)) 0 []:=
 Fz [] [.t false,Lf r0]
  tI (Ai hl (Lo r0 [] tI))
end Go.Proofs.YtkckcgpmnipnaaaGreat

namespace Go.Proofs.YtkckcgpmnipnaaaGreat
set_option maxRecDepth 100000
open Go.RowKit
theorem qq9 {a pa pb id:Int} (n1:(!(a==a))=false) (n2:(!(id==id))=false) (h1:decide (a<id)=true):Pure Tryz.prog 294 #[qab a pa pb,iV id] (iV (-1)):=
 qac (args:=[qab a pa pb,iV id]) 200 [.k,.k,.t false,.k,.t false,.t true] (Ai rfl (Ai n1 (Ai n2 (Ai h1 tI)))) (by kernel_rfl)
theorem qtL {a pa pb id:Int} (n1:(!(a==a))=false) (n2:(!(id==id))=false) (h1:decide (a<id)=false) (h2:decide (a>id)=true):Pure Tryz.prog 294 #[qab a pa pb,iV id] (iV (1)):=
 qac (args:=[qab a pa pb,iV id]) 200 [.k,.k,.t false,.k,.t false,.t false,.t true] (Ai rfl (Ai n1 (Ai n2 (Ai h1 (Ai h2 tI))))) (by kernel_rfl)
theorem qrY {a pa pb id:Int} (n1:(!(a==a))=false) (n2:(!(id==id))=false) (h1:decide (a<id)=false) (h2:decide (a>id)=false):Pure Tryz.prog 294 #[qab a pa pb,iV id] (iV (0)):=
 qac (args:=[qab a pa pb,iV id]) 200 [.k,.k,.t false,.k,.t false,.t false,.t false] (Ai rfl (Ai n1 (Ai n2 (Ai h1 (Ai h2 tI))))) (by kernel_rfl)
abbrev qEj (i:Nat) (id:Int) (j:Nat) (l:List Pt):TmL:=[(0,.ls 0 l.length),(1,.pv (iV id)),(2,.pv (.func (.func 294) #[] #[])),(8,.pv (iV (l.length:Int))),(9,.pv (iV (i:Int))),(10,.pv (iV (j:Int)))]
theorem qFf {l:List Pt} {i j h:Nat} {p:Pt} {c:Int} {id:Int} (hk:l[h]?=some p) (hin:0≤(h:Int)∧(h:Int)<(l.length:Int)) (hlt:decide ((i:Int)<(j:Int))=true) (ha:iV (IntKind.i64.wrap ((i:Int)+(j:Int)))=iV ((i:Int)+(j:Int))) (hu:Value.int .u64 (IntKind.u64.wrap ((i:Int)+(j:Int)))=.int .u64 ((i:Int)+(j:Int))) (h1:¬ (1:Int)<0) (hs:Value.int .u64 (((i:Int)+(j:Int)).fdiv (2 ^ (min (1:Int).toNat IntKind.u64.bits)))=.int .u64 (h:Int)) (hb:iV (IntKind.i64.wrap (h:Int))=iV (h:Int)) (hc:Pure Tryz.prog 294 #[qab p.id p.a p.b,iV id] (iV (c))) (hz:decide (c<0)=true) (hh:iV (IntKind.i64.wrap ((h:Int)+1))=iV (((h+1:Nat):Int))) {e:Exit} {tm2:TmL} {hp2:HpL}
 (r:Rl 1 1 293 0 49 1 ([(0,.ls 0 l.length),(1,.pv (iV id)),(2,.pv (.func (.func 294) #[] #[])),(8,.pv (iV (l.length:Int))),(9,.pv (iV ((h+1:Nat):Int))),(10,.pv (iV (j:Int)))]) ([(0,0,qad l)]) e tm2 hp2):Rl 1 1 293 0 49 1 (qEj i id j l) ([(0,0,qad l)]) e tm2 hp2:=
 RunsL.next [] 300 [.t true,Re ha,Re hu,.r (.int .u64 (h:Int)),Re hb,.r (ptV p),Rf hc,.t true,Re hh]
  (Ro (Ai hlt (Ai ha (Ai hu (Ai h1 (Ai hs (Ai hb (Ai hin (Ai (qaA hk) (Ai hc (Ai hz (Ai hh tI)))))))))))) r
theorem qFD {l:List Pt} {i j h:Nat} {p:Pt} {c:Int} {id:Int} (hk:l[h]?=some p) (hin:0≤(h:Int)∧(h:Int)<(l.length:Int)) (hlt:decide ((i:Int)<(j:Int))=true) (ha:iV (IntKind.i64.wrap ((i:Int)+(j:Int)))=iV ((i:Int)+(j:Int))) (hu:Value.int .u64 (IntKind.u64.wrap ((i:Int)+(j:Int)))=.int .u64 ((i:Int)+(j:Int))) (h1:¬ (1:Int)<0) (hs:Value.int .u64 (((i:Int)+(j:Int)).fdiv (2 ^ (min (1:Int).toNat IntKind.u64.bits)))=.int .u64 (h:Int)) (hb:iV (IntKind.i64.wrap (h:Int))=iV (h:Int)) (hc:Pure Tryz.prog 294 #[qab p.id p.a p.b,iV id] (iV (c))) (hz:decide (c<0)=false) {e:Exit} {tm2:TmL} {hp2:HpL}
 (r:Rl 1 1 293 0 49 1 ([(0,.ls 0 l.length),(1,.pv (iV id)),(2,.pv (.func (.func 294) #[] #[])),(8,.pv (iV (l.length:Int))),(9,.pv (iV (i:Int))),(10,.pv (iV (h:Int)))]) ([(0,0,qad l)]) e tm2 hp2):Rl 1 1 293 0 49 1 (qEj i id j l) ([(0,0,qad l)]) e tm2 hp2:=
 RunsL.next [] 300 [.t true,Re ha,Re hu,.r (.int .u64 (h:Int)),Re hb,.r (ptV p),Rf hc,.t false]
  (Ro (Ai hlt (Ai ha (Ai hu (Ai h1 (Ai hs (Ai hb (Ai hin (Ai (qaA hk) (Ai hc (Ai hz tI))))))))))) r
theorem quv {l:List Pt} {i j:Nat} {id:Int} (hge:decide ((i:Int)<(j:Int))=false):Rl 1 1 293 0 49 1 (qEj i id j l) ([(0,0,qad l)]) (.exit 0) (qEj i id j l) ([(0,0,qad l)]):=
 RunsL.stop [] 300 [.t false] (fun h=>by cases h)
  (Ro (Ai hge tI))
theorem qyq {l:List Pt} {k:Nat} {p:Pt} {c:Int} {id:Int} (r0:Rl 1 1 293 0 49 1 ([(0,.ls 0 l.length),(1,.pv (iV id)),(2,.pv (.func (.func 294) #[] #[])),(8,.pv (iV (l.length:Int))),(9,.pv (iV ((0:Nat):Int))),(10,.pv (iV (l.length:Int)))]) ([(0,0,qad l)]) (.exit 0) ([(0,.ls 0 l.length),(1,.pv (iV id)),(2,.pv (.func (.func 294) #[] #[])),(8,.pv (iV (l.length:Int))),(9,.pv (iV (k:Int))),(10,.pv (iV (k:Int)))]) ([(0,0,qad l)])) (hk:l[k]?=some p) (hin:0≤(k:Int)∧(k:Int)<(l.length:Int)) (hlt:decide ((k:Int)<(l.length:Int))=true) (hc:Pure Tryz.prog 294 #[qab p.id p.a p.b,iV id] (iV (c))) (hz:(c==0)=true) :
 Fn 293 1 [.ls 0 l.length,.pv (iV (id)),.pv (.func (.func 294) #[] #[])] [(0,0,qad l)] (.pv (.tuple #[iV (k:Int),.bool true])) 0 []:=
 Fz [] [Lf r0,.t true,.r (ptV p),Rf hc,.t true]
  tI (Lo r0 [] (Ai hlt (Ai hin (Ai (qaA hk) (Ai hc (Ai hz tI))))))
theorem qpj {l:List Pt} {k:Nat} {b:Bool} {id:Int} (hb:Fn 293 1 [.ls 0 l.length,.pv (iV (id)),.pv (.func (.func 294) #[] #[])] [(0,0,qad l)] (.pv (.tuple #[iV (k:Int),.bool b])) 0 []) :
 Fn 232 1 [qas 0 l,.pv (iV (id))] [(0,0,qad l)] (.pv (.tuple #[iV (k:Int),.bool b])) 0 []:=
 Fz [] [Cf hb [0]]
  tI (Co hb [0] 2 tI)
theorem qmN {l:List Pt} {k:Nat} {p:Pt} {id:Int} (hk:l[k]?=some p) (hin:0≤(k:Int)∧(k:Int)<(l.length:Int)) (hc:Fn 74 1 [qas 0 l] [(0,0,qad l)] (.pv (iV (0))) 0 []) (hf:Fn 232 1 [qas 0 l,.pv (iV (id))] [(0,0,qad l)] (.pv (.tuple #[iV (k:Int),.bool true])) 0 []) :
 Fn 184 1 [qas 0 l,.pv (iV (id))] [(0,0,qad l)] (.pv (.tuple #[ptV p,iV (0)])) 0 []:=
 Fz [] [Cf hc [0],.k,Cf hf [0],.k,.r (ptV p)]
  tI (Co hc [0] 3 (Co hf [0] 3 (Ai hin (Ai (qaA hk) tI))))
end Go.Proofs.YtkckcgpmnipnaaaGreat

namespace Go.Proofs.YtkckcgpmnipnaaaGreat
set_option maxRecDepth 100000
open Go.RowKit
theorem qkN {l:List Pt} {k:Nat} {p:Pt} (hk:l[k]?=some p) (hin:0≤(k:Int)∧(k:Int)<(l.length:Int)) (hlt:decide ((k:Int)<(l.length:Int))=true) (hc:Pure Tryz.prog 86 #[qab p.id p.a p.b] (iV (0))) (hs:iV (IntKind.i64.wrap ((k:Int)+1))=iV (((k+1:Nat):Int))) {e:Exit} {tm2:TmL} {hp2:HpL}
 (r:Rl 1 1 38 0 44 2 ([(1,.pp 1 0),(3,.pv (iV ((k+1:Nat):Int)))]) ([(1,0,.ls 0 l.length),(0,0,qad l)]) e tm2 hp2):Rl 1 1 38 0 44 2 ([(1,.pp 1 0),(3,.pv (iV (k:Int)))]) ([(1,0,.ls 0 l.length),(0,0,qad l)]) e tm2 hp2:=
 RunsL.next [] 300 [.t true,.r (ptV p),Rf hc,.k,Re hs]
  (Ro (Ai hlt (Ai hin (Ai (qaA hk) (Ai hc (Ai hs tI)))))) r
theorem qwK {l:List Pt} {k:Nat} {p:Pt} (hk:l[k]?=some p) (hin:0≤(k:Int)∧(k:Int)<(l.length:Int)) (hlt:decide ((k:Int)<(l.length:Int))=true) (hc:Pure Tryz.prog 86 #[qab p.id p.a p.b] (iV (8))):Rl 1 1 38 0 44 2 ([(1,.pp 1 0),(3,.pv (iV (k:Int)))]) ([(1,0,.ls 0 l.length),(0,0,qad l)]) (.ret) ([(2,.pv (iV 8))]) ([]):=
 RunsL.stop [] 300 [.t true,.r (ptV p),Rf hc,.k] (fun h=>by cases h)
  (Ro (Ai hlt (Ai hin (Ai (qaA hk) (Ai hc tI)))))
theorem qyf {l:List Pt} {k:Nat} (hge:decide ((k:Int)<(l.length:Int))=false):Rl 1 1 38 0 44 2 ([(1,.pp 1 0),(3,.pv (iV (k:Int)))]) ([(1,0,.ls 0 l.length),(0,0,qad l)]) (.exit 0) ([(1,.pp 1 0)]) ([(1,0,.ls 0 l.length),(0,0,qad l)]):=
 RunsL.stop [] 300 [.t false] (fun h=>by cases h)
  (Ro (Ai hge tI))
theorem qkr {l:List Pt} {k:Nat} {p q:Pt} (hq:l[k]?=some q) (hk:l[k+1]?=some p) (hi0:0≤(k:Int)∧(k:Int)<(l.length:Int)) (hi1:0≤((k+1:Nat):Int)∧((k+1:Nat):Int)<(l.length:Int)) (hlt:decide (((k+1:Nat):Int)<(l.length:Int))=true) (hm:iV (IntKind.i64.wrap (((k+1:Nat):Int)-1))=iV (k:Int)) (hg:decide (q.id≥p.id)=false) (hs:iV (IntKind.i64.wrap (((k+1:Nat):Int)+1))=iV (((k+1+1:Nat):Int))) {e:Exit} {tm2:TmL} {hp2:HpL}
 (r:Rl 1 1 38 1 44 2 ([(1,.pp 1 0),(4,.pv (iV ((k+1+1:Nat):Int)))]) ([(1,0,.ls 0 l.length),(0,0,qad l)]) e tm2 hp2):Rl 1 1 38 1 44 2 ([(1,.pp 1 0),(4,.pv (iV ((k+1:Nat):Int)))]) ([(1,0,.ls 0 l.length),(0,0,qad l)]) e tm2 hp2:=
 RunsL.next [] 300 [.t true,.r (iV (k:Int)),.r (iV q.id),.r (iV p.id),.t false,.r (iV (((k+1+1:Nat):Int)))]
  (Ro (Ai hlt (Ai hm (Ai hi0 (Ai (qcU hq) (Ai hi1 (Ai (qcU hk) (Ai hg (Ai hs tI))))))))) r
theorem qyR {l:List Pt} {k:Nat} {p q:Pt} (hq:l[k]?=some q) (hk:l[k+1]?=some p) (hi0:0≤(k:Int)∧(k:Int)<(l.length:Int)) (hi1:0≤((k+1:Nat):Int)∧((k+1:Nat):Int)<(l.length:Int)) (hlt:decide (((k+1:Nat):Int)<(l.length:Int))=true) (hm:iV (IntKind.i64.wrap (((k+1:Nat):Int)-1))=iV (k:Int)) (hg:decide (q.id≥p.id)=true):Rl 1 1 38 1 44 2 ([(1,.pp 1 0),(4,.pv (iV ((k+1:Nat):Int)))]) ([(1,0,.ls 0 l.length),(0,0,qad l)]) (.ret) ([(2,.pv (iV 32))]) ([]):=
 RunsL.stop [] 300 [.t true,.r (iV (k:Int)),.r (iV q.id),.r (iV p.id),.t true] (fun h=>by cases h)
  (Ro (Ai hlt (Ai hm (Ai hi0 (Ai (qcU hq) (Ai hi1 (Ai (qcU hk) (Ai hg tI))))))))
theorem qo3 {l:List Pt} {k:Nat} (hge:decide (((k:Nat):Int)<(l.length:Int))=false):Rl 1 1 38 1 44 2 ([(1,.pp 1 0),(4,.pv (iV ((k:Nat):Int)))]) ([(1,0,.ls 0 l.length),(0,0,qad l)]) (.exit 2) ([]) ([]):=
 RunsL.stop [] 300 [.t false] (fun h=>by cases h)
  (Ro (Ai hge tI))
theorem qxH {l:List Pt} (h64:decide ((l.length:Int)>64)=true) :
 Fn 38 1 [qas 0 l] [(0,0,qad l)] (.pv (iV 4)) 0 []:=
 Fz [] [.t true]
  tI (Ai h64 tI)
theorem qCl {l:List Pt} (h64:decide ((l.length:Int)>64)=false) (r0:Rl 1 1 38 0 44 2 ([(1,.pp 1 0),(3,.pv (iV (((0:Nat):Int):Int)))]) ([(1,0,.ls 0 l.length),(0,0,qad l)]) (.ret) ([(2,.pv (iV 8))]) ([])) :
 Fn 38 1 [qas 0 l] [(0,0,qad l)] (.pv (iV 8)) 0 []:=
 Fz [] [.t false,Lf r0]
  tI (Ai h64 (Lo r0 [] tI))
abbrev qHI (l:List Pt):Prop:=Rl 1 1 38 0 44 2 ([(1,.pp 1 0),(3,.pv (iV (((0:Nat):Int):Int)))]) ([(1,0,.ls 0 l.length),(0,0,qad l)]) (.exit 0) ([(1,.pp 1 0)]) ([(1,0,.ls 0 l.length),(0,0,qad l)])
theorem qBW {l:List Pt} (h64:decide ((l.length:Int)>64)=false) (r0:qHI l) (r1:Rl 1 1 38 1 44 2 ([(1,.pp 1 0),(4,.pv (iV (((0+1:Nat):Int):Int)))]) ([(1,0,.ls 0 l.length),(0,0,qad l)]) (.ret) ([(2,.pv (iV 32))]) ([])) :
 Fn 38 1 [qas 0 l] [(0,0,qad l)] (.pv (iV 32)) 0 []:=
 Fz [] [.t false,Lf r0,Lf r1]
  tI (Ai h64 (Lo r0 [] (Lo r1 [] tI)))
theorem qEP {l:List Pt} (h64:decide ((l.length:Int)>64)=false) (r0:qHI l) (r1:Rl 1 1 38 1 44 2 ([(1,.pp 1 0),(4,.pv (iV (((0+1:Nat):Int):Int)))]) ([(1,0,.ls 0 l.length),(0,0,qad l)]) (.exit 2) ([]) ([])) :
 Fn 38 1 [qas 0 l] [(0,0,qad l)] (.pv (iV 0)) 0 []:=
 Fz [] [.t false,Lf r0,Lf r1]
  tI (Ai h64 (Lo r0 [] (Lo r1 [] tI)))
end Go.Proofs.YtkckcgpmnipnaaaGreat

namespace Go.Proofs.YtkckcgpmnipnaaaGreat
set_option maxRecDepth 100000
open Go.RowKit
abbrev qG0 (k:Nat) (l:List Pt):TmL:=[(1,.pp 1 0),(12,.ls 0 l.length),(13,.pv (iV (l.length:Int))),(14,.pv (iV (k:Int)))]
theorem qj3 {l:List Pt} {k:Nat} {p:Pt} (hk:l[k]?=some p) (hin:0≤(k:Int)∧(k:Int)<(l.length:Int)) (hlt:decide ((k:Int)<(l.length:Int))=true) (hc:Pure Tryz.prog 137 #[qab p.id p.a p.b] (iV (0))) (hs:iV (IntKind.i64.wrap ((k:Int)+1))=iV (((k+1:Nat):Int))) {e:Exit} {tm2:TmL} {hp2:HpL}
 (r:Rl 1 1 74 0 45 2 ([(1,.pp 1 0),(12,.ls 0 l.length),(13,.pv (iV (l.length:Int))),(14,.pv (iV ((k+1:Nat):Int)))]) ([(1,0,.ls 0 l.length),(0,0,qad l)]) e tm2 hp2):Rl 1 1 74 0 45 2 (qG0 k l) ([(1,0,.ls 0 l.length),(0,0,qad l)]) e tm2 hp2:=
 RunsL.next [] 300 [.t true,.r (ptV p),Rf hc,.k,Re hs]
  (Ro (Ai hlt (Ai hin (Ai (qaA hk) (Ai hc (Ai hs tI)))))) r
theorem qwe {l:List Pt} {k:Nat} {p:Pt} (hk:l[k]?=some p) (hin:0≤(k:Int)∧(k:Int)<(l.length:Int)) (hlt:decide ((k:Int)<(l.length:Int))=true) (hc:Pure Tryz.prog 137 #[qab p.id p.a p.b] (iV (8))):Rl 1 1 74 0 45 2 (qG0 k l) ([(1,0,.ls 0 l.length),(0,0,qad l)]) (.ret) ([(2,.pv (iV 8))]) ([]):=
 RunsL.stop [] 300 [.t true,.r (ptV p),Rf hc,.k] (fun h=>by cases h)
  (Ro (Ai hlt (Ai hin (Ai (qaA hk) (Ai hc tI)))))
theorem qvI {l:List Pt} {k:Nat} (hge:decide ((k:Int)<(l.length:Int))=false):Rl 1 1 74 0 45 2 (qG0 k l) ([(1,0,.ls 0 l.length),(0,0,qad l)]) (.exit 0) ([(1,.pp 1 0)]) ([(1,0,.ls 0 l.length),(0,0,qad l)]):=
 RunsL.stop [] 300 [.t false] (fun h=>by cases h)
  (Ro (Ai hge tI))
theorem qkc {l:List Pt} {k:Nat} {p q:Pt} (hq:l[k]?=some q) (hk:l[k+1]?=some p) (hi0:0≤(k:Int)∧(k:Int)<(l.length:Int)) (hi1:0≤((k+1:Nat):Int)∧((k+1:Nat):Int)<(l.length:Int)) (hlt:decide (((k+1:Nat):Int)<(l.length:Int))=true) (hm:iV (IntKind.i64.wrap (((k+1:Nat):Int)-1))=iV (k:Int)) (hg:decide (q.id≥p.id)=false) (hs:iV (IntKind.i64.wrap (((k+1:Nat):Int)+1))=iV (((k+1+1:Nat):Int))) {e:Exit} {tm2:TmL} {hp2:HpL}
 (r:Rl 1 1 74 1 45 2 ([(1,.pp 1 0),(6,.pv (iV ((k+1+1:Nat):Int)))]) ([(1,0,.ls 0 l.length),(0,0,qad l)]) e tm2 hp2):Rl 1 1 74 1 45 2 ([(1,.pp 1 0),(6,.pv (iV ((k+1:Nat):Int)))]) ([(1,0,.ls 0 l.length),(0,0,qad l)]) e tm2 hp2:=
 RunsL.next [] 300 [.t true,.r (iV (k:Int)),.r (iV q.id),.r (iV p.id),.t false,.r (iV (((k+1+1:Nat):Int)))]
  (Ro (Ai hlt (Ai hm (Ai hi0 (Ai (qcU hq) (Ai hi1 (Ai (qcU hk) (Ai hg (Ai hs tI))))))))) r
theorem qyZ {l:List Pt} {k:Nat} {p q:Pt} (hq:l[k]?=some q) (hk:l[k+1]?=some p) (hi0:0≤(k:Int)∧(k:Int)<(l.length:Int)) (hi1:0≤((k+1:Nat):Int)∧((k+1:Nat):Int)<(l.length:Int)) (hlt:decide (((k+1:Nat):Int)<(l.length:Int))=true) (hm:iV (IntKind.i64.wrap (((k+1:Nat):Int)-1))=iV (k:Int)) (hg:decide (q.id≥p.id)=true):Rl 1 1 74 1 45 2 ([(1,.pp 1 0),(6,.pv (iV ((k+1:Nat):Int)))]) ([(1,0,.ls 0 l.length),(0,0,qad l)]) (.ret) ([(2,.pv (iV 32))]) ([]):=
 RunsL.stop [] 300 [.t true,.r (iV (k:Int)),.r (iV q.id),.r (iV p.id),.t true] (fun h=>by cases h)
  (Ro (Ai hlt (Ai hm (Ai hi0 (Ai (qcU hq) (Ai hi1 (Ai (qcU hk) (Ai hg tI))))))))
theorem qmO {l:List Pt} {k:Nat} (hge:decide ((k:Int)<(l.length:Int))=false):Rl 1 1 74 1 45 2 ([(1,.pp 1 0),(6,.pv (iV ((k:Nat):Int)))]) ([(1,0,.ls 0 l.length),(0,0,qad l)]) (.exit 2) ([]) ([]):=
 RunsL.stop [] 300 [.t false] (fun h=>by cases h)
  (Ro (Ai hge tI))
theorem qx4 {l:List Pt} (h64:decide ((l.length:Int)>64)=true) :
 Fn 74 1 [qas 0 l] [(0,0,qad l)] (.pv (iV (4))) 0 []:=
 Fz [] [.t true]
  tI (Ai h64 tI)
theorem qCZ {l:List Pt} (h64:decide ((l.length:Int)>64)=false) (r0:Rl 1 1 74 0 45 2 ([(1,.pp 1 0),(12,.ls 0 l.length),(13,.pv (iV (l.length:Int))),(14,.pv (iV ((0:Nat):Int)))]) ([(1,0,.ls 0 l.length),(0,0,qad l)]) (.ret) ([(2,.pv (iV 8))]) ([])) :
 Fn 74 1 [qas 0 l] [(0,0,qad l)] (.pv (iV (8))) 0 []:=
 Fz [] [.t false,Lf r0]
  tI (Ai h64 (Lo r0 [] tI))
abbrev qHE (l:List Pt):Prop:=Rl 1 1 74 0 45 2 ([(1,.pp 1 0),(12,.ls 0 l.length),(13,.pv (iV (l.length:Int))),(14,.pv (iV ((0:Nat):Int)))]) ([(1,0,.ls 0 l.length),(0,0,qad l)]) (.exit 0) ([(1,.pp 1 0)]) ([(1,0,.ls 0 l.length),(0,0,qad l)])
theorem qAQ {l:List Pt} (h64:decide ((l.length:Int)>64)=false) (r0:qHE l) (r1:Rl 1 1 74 1 45 2 ([(1,.pp 1 0),(6,.pv (iV ((0+1:Nat):Int)))]) ([(1,0,.ls 0 l.length),(0,0,qad l)]) (.ret) ([(2,.pv (iV 32))]) ([])) :
 Fn 74 1 [qas 0 l] [(0,0,qad l)] (.pv (iV (32))) 0 []:=
 Fz [] [.t false,Lf r0,Lf r1]
  tI (Ai h64 (Lo r0 [] (Lo r1 [] tI)))
theorem qGH {l:List Pt} (h64:decide ((l.length:Int)>64)=false) (r0:qHE l) (r1:Rl 1 1 74 1 45 2 ([(1,.pp 1 0),(6,.pv (iV ((0+1:Nat):Int)))]) ([(1,0,.ls 0 l.length),(0,0,qad l)]) (.exit 2) ([]) ([])) :
 Fn 74 1 [qas 0 l] [(0,0,qad l)] (.pv (iV (0))) 0 []:=
 Fz [] [.t false,Lf r0,Lf r1]
  tI (Ai h64 (Lo r0 [] (Lo r1 [] tI)))
end Go.Proofs.YtkckcgpmnipnaaaGreat

namespace Go.Proofs.YtkckcgpmnipnaaaGreat
set_option maxRecDepth 100000
open Go.ChangeShapes Go.WideShapes Go.ChangeAt Go.RowKit Go.Joins Go.Deep
theorem qnX:Tryz.prog.cellsOf 24=1:=by kernel_rfl
theorem qA2:Tryz.prog.cellsOf 22=1:=by kernel_rfl
theorem qA4:Tryz.prog.cellsOf 137=3:=by kernel_rfl
theorem qvV:Tryz.prog.cellsOf 3=1:=by kernel_rfl
theorem qv1:Tryz.prog.cellsOf 2=1:=by kernel_rfl
theorem qtt:Tryz.prog.readableRec 24=true:=by kernel_rfl
theorem qve:24<Tryz.prog.types.size:=of_decide_eq_true (by kernel_rfl)
section
variable {H:Type} {enc:TypeId×Value→H} {W:World} {base:Nat} {spare:Nat→Bool} {held:Bool}
theorem qmq (f:Nat→Pt):∀ (n j:Nat) (v:Value),(qa3 ((List.range n).map f))[j]?=some v→j/3<n∧[iV (f (j/3)).id,iV (f (j/3)).a,iV (f (j/3)).b][j%3]?=some v:=by
 intro n j v h
 have hj:j<n*3:=by
  have:=(List.getElem?_eq_some_iff.1 h).1
  rw[qaZ] at this
  simpa using this
 have hk:j/3<n:=by omega
 have hg:=qcC (l:=(List.range n).map f) (k:=j/3) (p:=f (j/3)) (by simp[hk])
 refine⟨hk,?_⟩
 have h3:j%3=0∨j%3=1∨j%3=2:=by omega
 have e:j=j/3*3+j%3:=by omega
 rw[e] at h
 rcases h3 with e3 | e3 | e3<;>rw[e3] at h ⊢
 ·rw[Nat.add_zero,hg.1] at h;exact h
 ·rw[hg.2.1] at h;exact h
 ·rw[hg.2.2] at h;exact h
theorem qkm {fuel:Nat} {cs:List Value} {x:DataW H×List MemPlace} (h:DataW.trod enc Tryz.prog W base spare held fuel 22 cs=some x) :
 ∃ (u:Value) (l:List Pt),cs=[u]∧Rd W 3 u l.length (qa3 l)∧∀ p∈l,((Lit.int .i64 p.id).wf=true∧(Lit.int .i64 p.a).wf=true∧(Lit.int .i64 p.b).wf=true):=by
 rcases open_slice Tryz.underlying22 h with ⟨rfl,_⟩ | ⟨a,len,cap,m,n,D,Pl,rfl,_,hlc,_,hm,_,hi⟩
 ·exact⟨_,[],rfl,⟨rfl,none,0,rfl,Nat.le_refl _,fun j v hv=>by simp[qa3] at hv⟩,fun p hp=>by simp at hp⟩
 have hlm:len≤m:=by rw[hm];split<;>omega
 have each:∀ i,i<len→∃ p:Pt,W.cell? (a.add (i*3))=some (iV p.id)∧W.cell? (a.add (i*3+1))=some (iV p.a)∧W.cell? (a.add (i*3+2))=some (iV p.b)∧
  ((Lit.int .i64 p.id).wf=true∧(Lit.int .i64 p.a).wf=true∧(Lit.int .i64 p.b).wf=true):=by
  intro i hil
  obtain⟨cs',hc,ht⟩:=hi i (by omega)
  rw[qA4] at hc
  obtain⟨y0,y1,y2,n',_,hlen,t0,t1,t2⟩:=trod_struct3 Tryz.underlying137 ht
  obtain⟨_,hcl,hat⟩:=World.cells?_some hc
  match cs',hcl with
  | [c0,c1,c2],_=>
   obtain⟨pi,e0,_,w0⟩:=DataW.trod_int Tryz.underlying3 t0
   obtain⟨pa,e1,_,w1⟩:=DataW.trod_int Tryz.underlying2 t1
   obtain⟨pb,e2,_,w2⟩:=DataW.trod_int Tryz.underlying2 t2
   simp[qvV,qv1] at e0 e1 e2
   refine⟨⟨pi,pa,pb⟩,?_,?_,?_,w0,w1,w2⟩
   ·have:=hat 0 (by omega);rw[add_add] at this;simpa [e0] using this
   ·have:=hat 1 (by omega);rw[add_add] at this;simpa [e1] using this
   ·have:=hat 2 (by omega);rw[add_add] at this;simpa [e2] using this
 haveI:Inhabited Pt:=⟨⟨0,0,0⟩⟩
 obtain⟨f,hf⟩:=choose_lt (α:=Pt) each
 refine⟨_,(List.range len).map f,rfl,⟨qaZ _,some a,cap,by simp,by simpa using hlc,fun j v hv=>?_⟩,fun p hp=>?_⟩
 ·obtain⟨hk,he⟩:=qmq f len j v hv
  obtain⟨c0,c1,c2,_⟩:=hf _ hk
  have hcell:W.cell? (a.add j)=some v:=by
   have h3:j%3=0∨j%3=1∨j%3=2:=by omega
   have e:j=j/3*3+j%3:=by omega
   rcases h3 with e3 | e3 | e3<;>rw[e3] at he e<;>rw[e]<;>simp at he<;>subst he
   ·exact c0
   ·exact c1
   ·exact c2
  obtain⟨b,off,spot⟩:=a
  have hs:spot=none:=by simpa [Addr.add] using World.cell?_spot (hf 0 (by omega)).1
  subst hs
  exact⟨b,off,rfl,by rw[← Go.WideShapes.add_plain];exact hcell⟩
 ·obtain⟨i,hi',rfl⟩:=List.mem_map.1 hp
  exact (hf i (List.mem_range.1 hi')).2.2.2
theorem qp9 {r:Reach} {b0:Nat} {v:Value} {d:DataW H} {p:List MemPlace} (hv:Value.okWide Tryz.prog W r b0 24 v) (h:DataW.Trod enc Tryz.prog W base spare held 24 v d p) :
 ∃ (u:Value) (l:List Pt),v=.agg #[u]∧Rd W 3 u l.length (qa3 l)∧∀ p∈l,((Lit.int .i64 p.id).wf=true∧(Lit.int .i64 p.a).wf=true∧(Lit.int .i64 p.b).wf=true):=by
 obtain⟨cs,rfl,hsz⟩:=okWide_struct Tryz.underlying24 hv
 obtain⟨fuel,hf⟩:=h
 obtain⟨y0,n,_,hlen,h0⟩:=trod_struct1 Tryz.underlying24 hf
 obtain⟨u,l,hc,hr,hb⟩:=qkm h0
 refine⟨u,l,?_,hr,hb⟩
 rw[qA2] at hc
 have h1:cs.size=1:=hsz.trans qnX
 obtain⟨c0,rfl⟩:∃ c0,cs=#[c0]:=by
  obtain⟨L⟩:=cs
  match L,h1 with
  | [c0],_=>exact⟨c0,rfl⟩
 simp[Value.cells] at hc
 rw[hc]
end
theorem qfv:∀ (l:List Pt) (v:Value),v∈qa3 l→v.oneCell'=true
 | [],_,h=>by simp[qa3] at h
 | p::r,v,h=>by
  simp only[qa3,List.mem_cons] at h
  rcases h with rfl | rfl | rfl | h
  ·rfl
  ·rfl
  ·rfl
  ·exact qfv r v h
end Go.Proofs.YtkckcgpmnipnaaaGreat
