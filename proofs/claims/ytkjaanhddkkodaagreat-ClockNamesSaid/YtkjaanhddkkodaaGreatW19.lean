/-
  Joined: Q, Rv, T, Cp, Num, Con, Sm, Cr. Conditions: none.
-/
import Derived.Test.YtkjaanhddkkodaaGreatSxJ
import Derived.Test.YtkjaanhddkkodaaGreatW3
import Derived.Test.YtkjaanhddkkodaaGreatW18
import Derived.Laws.Bits64b
import Derived.Test.YtkjaanhddkkodaaGreatW2
namespace Go.Proofs.YtkjaanhddkkodaaGreat
set_option maxRecDepth 100000
open Go.RowKit
theorem qad {P:Program} (n:Nat) {f:FuncId} {args:List Value} (ch:List Ch) {v:Value} {T:Prop} (ht:v=v∧T) (e:qBP v (qBn P n f args ch)=(v=v∧T)):Pure P f args.toArray v:=qnE n ch (e▸ht)
abbrev qaa (n d:Int):Value:=.agg #[iV n,iV d]
abbrev qrs (x:Int):Value:=.agg #[.int .u64 (wHi x),.int .u64 (wLo x)]
theorem qnF {a b c d:Int} (h0 : -9223372036854775807≤a) (h1:a≤9223372036854775807) (h2 : -9223372036854775807≤b) (h3:b≤9223372036854775807)
 (h4 : -9223372036854775807≤c) (h5:c≤9223372036854775807) (h6 : -9223372036854775807≤d) (h7:d≤9223372036854775807):qd7 (a*b+c*d):=by
 have h:(a*b).natAbs≤9223372036854775807*9223372036854775807:=by rw[Int.natAbs_mul];exact Nat.mul_le_mul (by omega) (by omega)
 have g:(c*d).natAbs≤9223372036854775807*9223372036854775807:=by rw[Int.natAbs_mul];exact Nat.mul_le_mul (by omega) (by omega)
 unfold qd7
 generalize a*b=p at *
 generalize c*d=q at *
 omega
end Go.Proofs.YtkjaanhddkkodaaGreat

namespace Go.Proofs.YtkjaanhddkkodaaGreat
set_option maxRecDepth 100000
open Go.RowKit
abbrev qax (s:Bool) (hi lo:Int):Value:=.agg #[.bool s,.int .u64 hi,.int .u64 lo]
theorem qgX {x y:Int} (h:x=y) (h0:0≤y) (h1:y<18446744073709551616):Value.int .u64 (IntKind.u64.wrap x)=.int .u64 y:=by rw[h,qe6 h0 h1]
abbrev qik (s:Bool) (A:Nat):Value:=qax s ((A/18446744073709551616:Nat):Int) ((A%18446744073709551616:Nat):Int)
end Go.Proofs.YtkjaanhddkkodaaGreat

namespace Go.Proofs.YtkjaanhddkkodaaGreat
set_option maxRecDepth 100000
open Go.RowKit
theorem qvW {a b c d:Int} (ha:I64 a) (hb:I64 b) (hc:I64 c) (hd:I64 d) (h1:okB a b=true) (h2:okB c d=true):Pure Tryz.prog 170 #[qaa a b,qaa c d] (.int .i64 0):=
 fun w=>qiU h1 h2▸qdz a b c d w ha hb hc hd
theorem qoN {a b c d:Int} (ha:I64 a) (hb:I64 b) (hc:I64 c) (hd:I64 d) (h:¬ (okB a b=true∧okB c d=true)):Pure Tryz.prog 170 #[qaa a b,qaa c d] (.int .i64 8):=
 fun w=>qkv h▸qdz a b c d w ha hb hc hd
set_option maxRecDepth 100000
theorem qwl {a b c d:Int} (ha:I64 a) (hb:I64 b) (hc:I64 c) (hd:I64 d) (h1:okB a b=true) (h2:okB c d=true) :
 Pure Tryz.prog 116 #[qaa a b,qaa c d] (.tuple #[.int .i64 (a*d-c*b).sign,.int .i64 0]):=by
 have b1:=qbm h1
 have d1:=qbm h2
 have a1:=qnH h1
 have c1:=qnH h2
 have hB:=qvW ha hb hc hd h1 h2
 unfold I64 at ha hb hc hd
 have e:a*d + -(c*b)=a*d-c*b:=rfl
 have f:qd7 (a*d-c*b):=by
  have:=qnF (a:=a) (b:=d) (c:=-c) (d:=b) (by omega) (by omega) (by omega) (by omega) (by omega) (by omega) (by omega) (by omega)
  rw[Int.neg_mul] at this
  exact this
 exact qad (args:=[qaa a b,qaa c d]) 100 [.r (.int .i64 0),.k,.r (qrs (a*d)),.r (qrs (c*b)),.r (qrs (-(c*b))),.r (qrs (a*d-c*b)),.r (.int .i64 (a*d-c*b).sign)]
  (Ai rfl (Ai hB (Ai ((fun w=>qfm a d w (by omega) (by omega) (by omega) (by omega):Pure _ _ _ _)) (Ai ((fun w=>qfm c b w (by omega) (by omega) (by omega) (by omega):Pure _ _ _ _)) (Ai ((fun w=>qfj (c*b) w:Pure _ _ _ _)) (Ai ((fun w=>e▸qo5 (a*d) (-(c*b)) w:Pure _ _ _ _)) (Ai (fun w=>qrq _ w f:Pure _ _ _ _) tI))))))) (by kernel_rfl)
theorem quT {a b c d:Int} (ha:I64 a) (hb:I64 b) (hc:I64 c) (hd:I64 d) (h:¬ (okB a b=true∧okB c d=true)) :
 Pure Tryz.prog 116 #[qaa a b,qaa c d] (.tuple #[iV 0,iV 8]):=
 qad (args:=[qaa a b,qaa c d]) 100 [.r (iV 8),.k] (Ai rfl (Ai (qoN ha hb hc hd h) tI)) (by kernel_rfl)
end Go.Proofs.YtkjaanhddkkodaaGreat

namespace Go.Proofs.YtkjaanhddkkodaaGreat
set_option maxRecDepth 100000
open Go.RowKit
abbrev qac (n a b:Int):Value:=.agg #[iV n,iV a,iV b]
theorem qBR {pi pa pb:Int} (i0:decide (pi<0)=true) :
 Pure Tryz.prog 95 #[qac pi pa pb] (iV 8):=
 qad (args:=[qac pi pa pb]) 200 [.t true]
  (Ai rfl (Ai i0 tI)) (by kernel_rfl)
theorem qDF {pi pa pb:Int} (i0:decide (pi<0)=false) (i1:decide (pi>65535)=true) :
 Pure Tryz.prog 95 #[qac pi pa pb] (iV 8):=
 qad (args:=[qac pi pa pb]) 200 [.t false,.t true]
  (Ai rfl (Ai i0 (Ai i1 tI))) (by kernel_rfl)
theorem qDY {pi pa pb:Int} (i0:decide (pi<0)=false) (i1:decide (pi>65535)=false) (la:decide (-1048576≤pa)=false) :
 Pure Tryz.prog 95 #[qac pi pa pb] (iV 8):=
 qad (args:=[qac pi pa pb]) 200 [.t false,.t false,.k,.t false,.k]
  (Ai rfl (Ai i0 (Ai i1 (Ai la tI)))) (by kernel_rfl)
theorem qDw {pi pa pb:Int} (i0:decide (pi<0)=false) (i1:decide (pi>65535)=false) (la:decide (-1048576≤pa)=true) (ha:decide (pa≤1048576)=false) :
 Pure Tryz.prog 95 #[qac pi pa pb] (iV 8):=
 qad (args:=[qac pi pa pb]) 200 [.t false,.t false,.k,.t true,.t false,.k]
  (Ai rfl (Ai i0 (Ai i1 (Ai la (Ai ha tI))))) (by kernel_rfl)
theorem qB0 {pi pa pb:Int} (i0:decide (pi<0)=false) (i1:decide (pi>65535)=false) (la:decide (-1048576≤pa)=true) (ha:decide (pa≤1048576)=true) (lb:decide (-1048576≤pb)=false) :
 Pure Tryz.prog 95 #[qac pi pa pb] (iV 8):=
 qad (args:=[qac pi pa pb]) 200 [.t false,.t false,.k,.t true,.t true,.k,.k,.t false,.k]
  (Ai rfl (Ai i0 (Ai i1 (Ai la (Ai ha (Ai lb tI)))))) (by kernel_rfl)
theorem qD2 {pi pa pb:Int} (i0:decide (pi<0)=false) (i1:decide (pi>65535)=false) (la:decide (-1048576≤pa)=true) (ha:decide (pa≤1048576)=true) (lb:decide (-1048576≤pb)=true) (hb:decide (pb≤1048576)=false) :
 Pure Tryz.prog 95 #[qac pi pa pb] (iV 8):=
 qad (args:=[qac pi pa pb]) 200 [.t false,.t false,.k,.t true,.t true,.k,.k,.t true,.t false,.k]
  (Ai rfl (Ai i0 (Ai i1 (Ai la (Ai ha (Ai lb (Ai hb tI))))))) (by kernel_rfl)
theorem qB8 {pi pa pb:Int} (i0:decide (pi<0)=false) (i1:decide (pi>65535)=false) (la:decide (-1048576≤pa)=true) (ha:decide (pa≤1048576)=true) (lb:decide (-1048576≤pb)=true) (hb:decide (pb≤1048576)=true) :
 Pure Tryz.prog 95 #[qac pi pa pb] (iV 0):=
 qad (args:=[qac pi pa pb]) 200 [.t false,.t false,.k,.t true,.t true,.k,.k,.t true,.t true,.k]
  (Ai rfl (Ai i0 (Ai i1 (Ai la (Ai ha (Ai lb (Ai hb tI))))))) (by kernel_rfl)
theorem qC1 {pi pa pb:Int} (i0:decide (pi<0)=true) :
 Pure Tryz.prog 94 #[qac pi pa pb] (iV 8):=
 qad (args:=[qac pi pa pb]) 200 [.t true]
  (Ai rfl (Ai i0 tI)) (by kernel_rfl)
theorem qDp {pi pa pb:Int} (i0:decide (pi<0)=false) (i1:decide (pi>65535)=true) :
 Pure Tryz.prog 94 #[qac pi pa pb] (iV 8):=
 qad (args:=[qac pi pa pb]) 200 [.t false,.t true]
  (Ai rfl (Ai i0 (Ai i1 tI))) (by kernel_rfl)
theorem qC4 {pi pa pb:Int} (i0:decide (pi<0)=false) (i1:decide (pi>65535)=false) (la:decide (pa < -1048576)=true) :
 Pure Tryz.prog 94 #[qac pi pa pb] (iV 8):=
 qad (args:=[qac pi pa pb]) 200 [.t false,.t false,.t true]
  (Ai rfl (Ai i0 (Ai i1 (Ai la tI)))) (by kernel_rfl)
theorem qEh {pi pa pb:Int} (i0:decide (pi<0)=false) (i1:decide (pi>65535)=false) (la:decide (pa < -1048576)=false) (ha:decide (pa>1048576)=true) :
 Pure Tryz.prog 94 #[qac pi pa pb] (iV 8):=
 qad (args:=[qac pi pa pb]) 200 [.t false,.t false,.t false,.t true]
  (Ai rfl (Ai i0 (Ai i1 (Ai la (Ai ha tI))))) (by kernel_rfl)
theorem qC6 {pi pa pb:Int} (i0:decide (pi<0)=false) (i1:decide (pi>65535)=false) (la:decide (pa < -1048576)=false) (ha:decide (pa>1048576)=false) (lb:decide (pb < -1048576)=true) :
 Pure Tryz.prog 94 #[qac pi pa pb] (iV 8):=
 qad (args:=[qac pi pa pb]) 200 [.t false,.t false,.t false,.t false,.t true]
  (Ai rfl (Ai i0 (Ai i1 (Ai la (Ai ha (Ai lb tI)))))) (by kernel_rfl)
theorem qCV {pi pa pb:Int} (i0:decide (pi<0)=false) (i1:decide (pi>65535)=false) (la:decide (pa < -1048576)=false) (ha:decide (pa>1048576)=false) (lb:decide (pb < -1048576)=false) (hb:decide (pb>1048576)=true) :
 Pure Tryz.prog 94 #[qac pi pa pb] (iV 8):=
 qad (args:=[qac pi pa pb]) 200 [.t false,.t false,.t false,.t false,.t false,.t true]
  (Ai rfl (Ai i0 (Ai i1 (Ai la (Ai ha (Ai lb (Ai hb tI))))))) (by kernel_rfl)
theorem qAj {pi pa pb:Int} (i0:decide (pi<0)=false) (i1:decide (pi>65535)=false) (la:decide (pa < -1048576)=false) (ha:decide (pa>1048576)=false) (lb:decide (pb < -1048576)=false) (hb:decide (pb>1048576)=false) :
 Pure Tryz.prog 94 #[qac pi pa pb] (iV 0):=
 qad (args:=[qac pi pa pb]) 200 [.t false,.t false,.t false,.t false,.t false,.t false]
  (Ai rfl (Ai i0 (Ai i1 (Ai la (Ai ha (Ai lb (Ai hb tI))))))) (by kernel_rfl)
theorem qhG {pi pa pb qi qa qb x y m n:Int} (v1:iV (IntKind.i64.wrap (qa-pa))=iV x) (v2:iV (IntKind.i64.wrap (pb-qb))=iV y) (c1:Pure Tryz.prog 219 #[iV x,iV y] (.tuple #[qaa m n,iV 0])) :
 Pure Tryz.prog 188 #[qac pi pa pb,qac qi qa qb] (qaa m n):=
 qad (args:=[qac pi pa pb,qac qi qa qb]) 200 [Re v1,Re v2,Rf c1]
  (Ai rfl (Ai v1 (Ai v2 (Ai c1 tI)))) (by kernel_rfl)
theorem qCu {pi pa pb qi qa qb:Int} (ij:(pi==qi)=false) :
 Pure Tryz.prog 142 #[qac pi pa pb,qac qi qa qb] (iV 0):=
 qad (args:=[qac pi pa pb,qac qi qa qb]) 200 [.t false]
  (Ai rfl (Ai ij tI)) (by kernel_rfl)
end Go.Proofs.YtkjaanhddkkodaaGreat

namespace Go.Proofs.YtkjaanhddkkodaaGreat
set_option maxRecDepth 100000
def IsRes (p q N D E:Int):Prop:=
 (E=0∧okB N D=true∧I64 N∧I64 D∧N*q=p*D)∨(E=16∧N=0∧D=0∧∀ n d,okB n d=true→I64 n→I64 d→n*q≠p*d)
theorem qdh {T U n d:Int} (hU:0<U) (hd:0<d) (h1:Nat.gcd T.natAbs U.natAbs=1) (h2:Nat.gcd n.natAbs d.natAbs=1) (h:T*d=n*U):T=n∧U=d:=by
 have e:T.natAbs*d.natAbs=n.natAbs*U.natAbs:=by rw[← Int.natAbs_mul,← Int.natAbs_mul,h]
 have a1:U.natAbs ∣ d.natAbs:=Nat.Coprime.dvd_of_dvd_mul_left (show Nat.Coprime U.natAbs T.natAbs by rw[Nat.coprime_comm];exact h1) ⟨n.natAbs,by rw[e,Nat.mul_comm]⟩
 have a2:d.natAbs ∣ U.natAbs:=Nat.Coprime.dvd_of_dvd_mul_left (show Nat.Coprime d.natAbs n.natAbs by rw[Nat.coprime_comm];exact h2) ⟨T.natAbs,by rw[← e,Nat.mul_comm]⟩
 have a3:=Nat.dvd_antisymm a1 a2
 have hUd:U=d:=by omega
 subst hUd
 exact⟨Int.eq_of_mul_eq_mul_right (by omega) h,rfl⟩
theorem qdl {n d:Int}:okB n d=true↔1≤d∧n≠-9223372036854775808∧Nat.gcd n.natAbs d.natAbs=1:=by simp[okB]
theorem qgL {n d n' d':Int} (h1:okB n d=true) (h2:okB n' d'=true) (h:n*d'=n'*d):n=n'∧d=d':=by
 obtain⟨a1,_,a2⟩:=qdl.1 h1
 obtain⟨b1,_,b2⟩:=qdl.1 h2
 exact qdh (by omega) (by omega) a2 b2 h
theorem qej (T:Int) (h:qbr T.natAbs=true):sgV T.natAbs (decide (T<0))=T:=by
 have h':T.natAbs<9223372036854775808:=by simpa [qbr] using h
 unfold sgV
 rw[if_pos h']
 by_cases ht:T<0
 ·simp[ht];omega
 ·simp[ht];omega
theorem qkc {p q T U:Int} (hq:q≠0) (hU:0<U) (hg:Nat.gcd T.natAbs U.natAbs=1) (h:T*q=p*U) :
 IsRes p q (qea (qbr T.natAbs&&qbr U.natAbs) (sgV T.natAbs (decide (T<0)))) (qea (qbr T.natAbs&&qbr U.natAbs) (sgV U.natAbs (decide (U<0)))) (qnt (qbr T.natAbs&&qbr U.natAbs)):=by
 cases hf:(qbr T.natAbs&&qbr U.natAbs)
 ·refine Or.inr ⟨rfl,rfl,rfl,fun n d hk hn hd he=>?_⟩
  obtain⟨a1,a2,a3⟩:=qdl.1 hk
  have e:T*d=n*U:=by
   refine Int.eq_of_mul_eq_mul_right hq ?_
   rw[Int.mul_right_comm,h,Int.mul_right_comm n U q,he,Int.mul_right_comm]
  obtain⟨rfl,rfl⟩:=qdh hU (by omega) hg a3 e
  unfold I64 at hn hd
  have:(qbr T.natAbs&&qbr U.natAbs)=true:=by simp[qbr];omega
  rw[hf] at this
  cases this
 ·simp only[Bool.and_eq_true] at hf
  have h1:T.natAbs<9223372036854775808:=by simpa [qbr] using hf.1
  have h2:U.natAbs<9223372036854775808:=by simpa [qbr] using hf.2
  refine Or.inl ⟨rfl,?_,?_,?_,?_⟩
  ·simp only[qea,if_true,qej T hf.1,qej U hf.2]
   exact qdl.2 ⟨by omega,by omega,hg⟩
  ·simp only[qea,if_true,qej T hf.1];unfold I64;omega
  ·simp only[qea,if_true,qej U hf.2];unfold I64;omega
  ·simp only[qea,if_true,qej T hf.1,qej U hf.2];exact h
theorem qzW {a b:Int} (hb:b≠0):IsRes a b (mkN a b) (mkD a b) (mkE a b):=by
 obtain⟨g,hg⟩:∃ g:Nat,g=Nat.gcd a.natAbs b.natAbs:=⟨_,rfl⟩
 have g0:0<g:=hg▸Nat.gcd_pos_of_pos_right _ (by omega)
 have eA:mkQ a b*g=a.natAbs:=by unfold mkQ;rw[hg];exact Nat.div_mul_cancel (Nat.gcd_dvd_left _ _)
 have eB:mkP a b*g=b.natAbs:=by unfold mkP;rw[hg];exact Nat.div_mul_cancel (Nat.gcd_dvd_right _ _)
 have cop:Nat.gcd (mkQ a b) (mkP a b)=1:=by unfold mkQ mkP;exact Nat.coprime_div_gcd_div_gcd (hg▸g0)
 have hp0:0<mkP a b:=by
  rcases Nat.eq_zero_or_pos (mkP a b) with h | h
  ·rw[h] at eB;omega
  ·exact h
 obtain⟨Q,hQ⟩:∃ Q:Int,Q=if mkS a b then -(mkQ a b:Int) else mkQ a b:=⟨_,rfl⟩
 have nQ:Q.natAbs=mkQ a b:=by rw[hQ];split<;>omega
 have heq:Q*b=a*(mkP a b:Nat):=by
  have eA':((mkQ a b:Nat):Int)*(g:Int)=(a.natAbs:Int):=by rw[← Int.natCast_mul,eA]
  have eB':((mkP a b:Nat):Int)*(g:Int)=(b.natAbs:Int):=by rw[← Int.natCast_mul,eB]
  refine Int.eq_of_mul_eq_mul_right (show (g:Int)≠0 by omega) ?_
  rw[Int.mul_right_comm,Int.mul_assoc a,eB',hQ]
  unfold mkS
  by_cases ha:a<0<;>by_cases hb':b<0<;>simp[ha,hb',Int.neg_mul,eA']
  ·rw[show (a.natAbs:Int) = -a by omega,show (b.natAbs:Int) = -b by omega,Int.neg_mul,Int.mul_neg]
  ·rw[show (a.natAbs:Int) = -a by omega,show (b.natAbs:Int)=b by omega,Int.neg_mul,Int.neg_neg]
  ·rw[show (a.natAbs:Int)=a by omega,show (b.natAbs:Int) = -b by omega,Int.mul_neg]
  ·rw[show (a.natAbs:Int)=a by omega,show (b.natAbs:Int)=b by omega]
 have fin:=qkc (p:=a) (q:=b) (T:=Q) (U:=(mkP a b:Nat)) hb (by omega) (by rw[nQ];exact cop) heq
 have u1:mkN a b=qea (qbr Q.natAbs&&qbr ((mkP a b:Nat):Int).natAbs) (sgV Q.natAbs (decide (Q<0))):=by
  unfold mkN mkF
  rw[if_neg hb,nQ,show ((mkP a b:Nat):Int).natAbs=mkP a b from rfl]
  have:sgV (mkQ a b) (mkS a b)=sgV (mkQ a b) (decide (Q<0)):=by
   unfold sgV
   split
   ·cases hs:mkS a b
    ·rw[hs] at hQ
     have hQ':Q=mkQ a b:=by simpa using hQ
     have:decide (Q<0)=false:=by simp;omega
     rw[this]
    ·rw[hs] at hQ
     have hQ':Q = -(mkQ a b:Int):=by simpa using hQ
     by_cases h0:mkQ a b=0
     ·rw[h0];simp
     ·have:decide (Q<0)=true:=by simp;omega
      rw[this]
   ·rfl
  rw[this]
 have u2:mkD a b=qea (qbr Q.natAbs&&qbr ((mkP a b:Nat):Int).natAbs) (sgV ((mkP a b:Nat):Int).natAbs (decide (((mkP a b:Nat):Int)<0))):=by
  unfold mkD mkF
  rw[if_neg hb,nQ,show ((mkP a b:Nat):Int).natAbs=mkP a b from rfl,show decide (((mkP a b:Nat):Int)<0)=false by simp]
 have u3:mkE a b=qnt (qbr Q.natAbs&&qbr ((mkP a b:Nat):Int).natAbs):=by
  unfold mkE mkF
  rw[if_neg hb,nQ,show ((mkP a b:Nat):Int).natAbs=mkP a b from rfl]
 rw[u1,u2,u3]
 exact fin
end Go.Proofs.YtkjaanhddkkodaaGreat

namespace Go.Proofs.YtkjaanhddkkodaaGreat
set_option maxRecDepth 100000
open Go.RowKit
theorem IsRes.one {p q N D E n d:Int} (h:IsRes p q N D E) (hq:q≠0) (hk:okB n d=true) (hn:I64 n) (hd:I64 d) (he:n*q=p*d):N=n∧D=d∧E=0:=by
 rcases h with ⟨h1,h2,_,_,h5⟩ | ⟨_,_,_,h4⟩
 ·have:N*d=n*D:=by
   refine Int.eq_of_mul_eq_mul_right hq ?_
   rw[Int.mul_right_comm,h5,Int.mul_right_comm n D q,he,Int.mul_right_comm]
  obtain⟨a1,a2⟩:=qgL h2 hk this
  exact⟨a1,a2,h1⟩
 ·exact absurd he (h4 n d hk hn hd)
theorem qhj {n:Int} (h:n≠-9223372036854775808):okB n 1=true:=qdl.2 ⟨by omega,h,by simp⟩
theorem qcc {n d:Int} (hn:I64 n) (hd:I64 d) (h:okB n d=true):Pure Tryz.prog 49 #[qaa n d] (.int .i64 0):=fun w=>qn7 h▸qcS n d w hn.1 hn.2 hd.1 hd.2
theorem qe3 {n d:Int} (hn:I64 n) (hd:I64 d) (h:¬ okB n d=true):Pure Tryz.prog 49 #[qaa n d] (.int .i64 8):=fun w=>qgC h▸qcS n d w hn.1 hn.2 hd.1 hd.2
theorem qhL {n d:Int} (hn:I64 n) (hd:I64 d) (h:okB n d=true):Pure Tryz.prog 75 #[qaa n d] (.int .i64 0):=fun w=>qn7 h▸qfp n d w hn.1 hn.2 hd.1 hd.2
theorem qfS {n d:Int} (hn:I64 n) (hd:I64 d) (h:¬ okB n d=true):Pure Tryz.prog 75 #[qaa n d] (.int .i64 8):=fun w=>qgC h▸qfp n d w hn.1 hn.2 hd.1 hd.2
theorem qo3 {a b:Int} (ha:I64 a) (hb:I64 b) (h0:b≠0):∃ N D E,IsRes a b N D E∧Pure Tryz.prog 219 #[iV a,iV b] (.tuple #[qaa N D,iV E]):=
 ⟨_,_,_,qzW h0,fun w=>qlM a b w ha hb⟩
theorem qj3 {a b c d:Int} (ha:I64 a) (hb:I64 b) (hc:I64 c) (hd:I64 d) (h1:okB a b=true) (h2:okB c d=true) :
 Pure Tryz.prog 116 #[qaa a b,qaa c d] (.tuple #[iV (a*d-c*b).sign,iV 0]):=qwl ha hb hc hd h1 h2
end Go.Proofs.YtkjaanhddkkodaaGreat

namespace Go.Proofs.YtkjaanhddkkodaaGreat
set_option maxRecDepth 100000
open Go.RowKit
set_option maxRecDepth 100000
theorem IsRes.fits {p q N D E:Int} (h:IsRes p q N D E) (hq:0<q) (q1:q≤9223372036854775807) (p0 : -9223372036854775807≤p) (p1:p≤9223372036854775807) :
 E=0∧okB N D=true∧I64 N∧I64 D∧N*q=p*D:=by
 rcases h with h | ⟨_,_,_,h4⟩
 ·exact h
 ·exfalso
  obtain⟨g,hg⟩:∃ g:Nat,g=Nat.gcd p.natAbs q.natAbs:=⟨_,rfl⟩
  have g0:0<g:=hg▸Nat.gcd_pos_of_pos_right _ (by omega)
  have e1:p.tdiv g*g=p:=Int.tdiv_mul_cancel (Int.ofNat_dvd_left.2 (hg▸Nat.gcd_dvd_left _ _))
  have e2:q.tdiv g*g=q:=Int.tdiv_mul_cancel (Int.ofNat_dvd_left.2 (hg▸Nat.gcd_dvd_right _ _))
  have n1:(p.tdiv g).natAbs=p.natAbs/g:=by rw[Int.natAbs_tdiv];rfl
  have n2:(q.tdiv g).natAbs=q.natAbs/g:=by rw[Int.natAbs_tdiv];rfl
  have b1:p.natAbs/g≤p.natAbs:=Nat.div_le_self _ _
  have b2:q.natAbs/g≤q.natAbs:=Nat.div_le_self _ _
  have cop:Nat.gcd (p.tdiv g).natAbs (q.tdiv g).natAbs=1:=by
   have g0':=g0
   rw[hg] at g0'
   rw[n1,n2,hg]
   exact Nat.coprime_div_gcd_div_gcd g0'
  generalize p.tdiv (g:Int)=P at *
  generalize q.tdiv (g:Int)=Q at *
  have hQ:0<Q:=by
   rcases Int.lt_trichotomy Q 0 with h' | h' | h'
   ·have:=Int.mul_neg_of_neg_of_pos h' (show (0:Int)<g by omega);omega
   ·subst h';omega
   ·exact h'
  refine h4 P Q (qdl.2 ⟨by omega,by omega,cop⟩) (by unfold I64;omega) (by unfold I64;omega) ?_
  rw[← e1,← e2]
  ac_rfl
theorem IsRes.congr {p q p' q' N D E:Int} (h:IsRes p q N D E) (hq:q≠0) (hq':q'≠0) (e:p*q'=p'*q):IsRes p' q' N D E:=by
 have key:∀ n d:Int,n*q=p*d↔n*q'=p'*d:=by
  intro n d
  constructor
  ·intro h
   refine Int.eq_of_mul_eq_mul_right hq ?_
   grind
  ·intro h
   refine Int.eq_of_mul_eq_mul_right hq' ?_
   grind
 rcases h with ⟨h1,h2,h3,h4,h5⟩ | ⟨h1,h2,h3,h4⟩
 ·exact Or.inl ⟨h1,h2,h3,h4,(key _ _).1 h5⟩
 ·exact Or.inr ⟨h1,h2,h3,fun n d a1 a2 a3 a4=>h4 n d a1 a2 a3 ((key _ _).2 a4)⟩
end Go.Proofs.YtkjaanhddkkodaaGreat

namespace Go.Proofs.YtkjaanhddkkodaaGreat
set_option maxRecDepth 100000
open Go.RowKit
def okP (n a b:Int):Bool:=decide (0≤n∧n≤65535∧-1048576≤a∧a≤1048576∧-1048576≤b∧b≤1048576)
theorem qch {n a b:Int}:okP n a b=true↔0≤n∧n≤65535∧-1048576≤a∧a≤1048576∧-1048576≤b∧b≤1048576:=by simp[okP]
theorem dt {p:Prop} [Decidable p] (h:p):decide p=true:=by simp[h]
theorem df {p:Prop} [Decidable p] (h:¬ p):decide p=false:=by simp[h]
theorem qc2 {n a b:Int} (h:okP n a b=true):Pure Tryz.prog 95 #[qac n a b] (iV 0):=by
 have h':=qch.1 h
 exact qB8 (df (by omega)) (df (by omega)) (dt (by omega)) (dt (by omega)) (dt (by omega)) (dt (by omega))
theorem qff {n a b:Int} (h:okP n a b=true):Pure Tryz.prog 94 #[qac n a b] (iV 0):=by
 have h':=qch.1 h
 exact qAj (df (by omega)) (df (by omega)) (df (by omega)) (df (by omega)) (df (by omega)) (df (by omega))
theorem qiI {n a b:Int} (h:¬ okP n a b=true):Pure Tryz.prog 95 #[qac n a b] (iV 8):=by
 rw[qch] at h
 by_cases h1:n<0
 ·exact qBR (dt h1)
 by_cases h2:n>65535
 ·exact qDF (df h1) (dt h2)
 by_cases h3 : -1048576≤a
 ·by_cases h4:a≤1048576
  ·by_cases h5 : -1048576≤b
   ·exact qD2 (df h1) (df h2) (dt h3) (dt h4) (dt h5) (df (by omega))
   ·exact qB0 (df h1) (df h2) (dt h3) (dt h4) (df h5)
  ·exact qDw (df h1) (df h2) (dt h3) (df h4)
 ·exact qDY (df h1) (df h2) (df h3)
theorem qhR {n a b:Int} (h:¬ okP n a b=true):Pure Tryz.prog 94 #[qac n a b] (iV 8):=by
 rw[qch] at h
 by_cases h1:n<0
 ·exact qC1 (dt h1)
 by_cases h2:n>65535
 ·exact qDp (df h1) (dt h2)
 by_cases h3:a < -1048576
 ·exact qC4 (df h1) (df h2) (dt h3)
 by_cases h4:a>1048576
 ·exact qEh (df h1) (df h2) (df h3) (dt h4)
 by_cases h5:b < -1048576
 ·exact qC6 (df h1) (df h2) (df h3) (df h4) (dt h5)
 ·exact qCV (df h1) (df h2) (df h3) (df h4) (df h5) (dt (by omega))
def qbk (P Q pb qb pi qi:Int):Bool:=decide (P>Q∨P=Q∧(pb>qb∨pb=qb∧pi<qi))
theorem qdi {P Q pb qb pi qi:Int} (h:P>Q∨P=Q∧(pb>qb∨pb=qb∧pi<qi)):qbk P Q pb qb pi qi=true:=dt h
theorem qcV {P Q pb qb pi qi:Int} (h:¬ (P>Q∨P=Q∧(pb>qb∨pb=qb∧pi<qi))):qbk P Q pb qb pi qi=false:=df h
theorem qfL {pi pa pb qi qa qb:Int} (hp:okP pi pa pb=true) (hq:okP qi qa qb=true) (hb:pb≠qb) :
 ∃ m n,okB m n=true∧I64 m∧I64 n∧m*(pb-qb)=(qa-pa)*n∧Pure Tryz.prog 188 #[qac pi pa pb,qac qi qa qb] (qaa m n):=by
 have hp':=qch.1 hp
 have hq':=qch.1 hq
 obtain⟨N,D,E,hr,hm⟩:=qo3 (a:=qa-pa) (b:=pb-qb) (by unfold I64;omega) (by unfold I64;omega) (by omega)
 have key:E=0∧okB N D=true∧I64 N∧I64 D∧N*(pb-qb)=(qa-pa)*D:=by
  by_cases hs:0<pb-qb
  ·exact hr.fits hs (by omega) (by omega) (by omega)
  ·have h2:=hr.congr (p':=-(qa-pa)) (q':=-(pb-qb)) (by omega) (by omega) (by rw[Int.mul_neg,Int.neg_mul])
   obtain⟨e1,e2,e3,e4,e5⟩:=h2.fits (by omega) (by omega) (by omega) (by omega)
   refine⟨e1,e2,e3,e4,?_⟩
   rw[Int.mul_neg,Int.neg_mul] at e5
   omega
 obtain⟨rfl,k1,k2,k3,k4⟩:=key
 exact⟨N,D,k1,k2,k3,k4,qhG (by rw[qaq (by omega) (by omega)]) (by rw[qaq (by omega) (by omega)]) hm⟩
end Go.Proofs.YtkjaanhddkkodaaGreat
