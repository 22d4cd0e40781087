/-
  Joined: Cu, Cv, Fa, Fi, Fe, Fd, Fq, Fb, Fc. Conditions: none.
-/
import Derived.Test.YtkjaanhddkkodaaGreatW19
import Derived.Test.YtkjaanhddkkodaaGreatW22
import Derived.Test.YtkjaanhddkkodaaGreatW18
import Derived.ProofKit
import Derived.OpenShut
import Derived.Lib.SmallJoins
import Derived.Deep.Slices
import Derived.Deep.Strs
import Derived.Deep.Fields
import Derived.Carry
namespace Go.Proofs.YtkjaanhddkkodaaGreat
set_option maxRecDepth 100000
open Go.RowKit
abbrev qAQ (g:Int) (za:Int) (zb:Int):Prop:=Pure Tryz.prog 127 #[.int .u64 za,.int .u64 zb] (.int .u64 g)
abbrev qzy (a:Int) (za:Int):Prop:=Pure Tryz.prog 128 #[iV a] (.int .u64 za)
abbrev qzN (b:Int) (zb:Int):Prop:=Pure Tryz.prog 128 #[iV b] (.int .u64 zb)
abbrev que (D:Int) (E:Int) (N:Int) (x:Int) (y:Int):Prop:=Pure Tryz.prog 218 #[.bool false,qax false 0 x,qax false 0 y] (.tuple #[qaa N D,iV E])
theorem qoD {a b za zb g x y N D E:Int} (b0:(b==0)=false) (z1:qzy a za) (z2:qzN b zb) (g1:qAQ g za zb) (t1:decide (a<0)=true) (t2:decide (b<0)=true) (gz:¬ (g:Int)=0) (q1:Value.int .u64 (IntKind.u64.wrap (za.tdiv g))=.int .u64 x) (q2:Value.int .u64 (IntKind.u64.wrap (zb.tdiv g))=.int .u64 y) (m1:que D E N x y) :
 Pure Tryz.prog 183 #[iV a,iV b] (.tuple #[qaa N D,iV E]):=
 qad (args:=[iV a,iV b]) 400 [.t false,Rf z1,Rf z2,Rf g1,.t true,.t true,.k,Rf z1,Re q1,Rf z2,Re q2,Rf m1]
  (Ai rfl (Ai b0 (Ai z1 (Ai z2 (Ai g1 (Ai t1 (Ai t2 (Ai z1 (Ai gz (Ai q1 (Ai z2 (Ai gz (Ai q2 (Ai m1 tI)))))))))))))) (by kernel_rfl)
theorem qm9 {a b za zb g x y N D E:Int} (b0:(b==0)=false) (z1:qzy a za) (z2:qzN b zb) (g1:qAQ g za zb) (t1:decide (a<0)=true) (t2:decide (b<0)=false) (t3:(a !=0)=true) (gz:¬ (g:Int)=0) (q1:Value.int .u64 (IntKind.u64.wrap (za.tdiv g))=.int .u64 x) (q2:Value.int .u64 (IntKind.u64.wrap (zb.tdiv g))=.int .u64 y) (m1:Pure Tryz.prog 218 #[.bool true,qax false 0 x,qax false 0 y] (.tuple #[qaa N D,iV E])) :
 Pure Tryz.prog 183 #[iV a,iV b] (.tuple #[qaa N D,iV E]):=
 qad (args:=[iV a,iV b]) 400 [.t false,Rf z1,Rf z2,Rf g1,.t true,.t false,.k,.t true,Rf z1,Re q1,Rf z2,Re q2,Rf m1]
  (Ai rfl (Ai b0 (Ai z1 (Ai z2 (Ai g1 (Ai t1 (Ai t2 (Ai t3 (Ai z1 (Ai gz (Ai q1 (Ai z2 (Ai gz (Ai q2 (Ai m1 tI))))))))))))))) (by kernel_rfl)
theorem qn8 {a b za zb g x y N D E:Int} (b0:(b==0)=false) (z1:qzy a za) (z2:qzN b zb) (g1:qAQ g za zb) (t1:decide (a<0)=false) (t2:decide (b<0)=true) (t3:(a !=0)=true) (gz:¬ (g:Int)=0) (q1:Value.int .u64 (IntKind.u64.wrap (za.tdiv g))=.int .u64 x) (q2:Value.int .u64 (IntKind.u64.wrap (zb.tdiv g))=.int .u64 y) (m1:Pure Tryz.prog 218 #[.bool true,qax false 0 x,qax false 0 y] (.tuple #[qaa N D,iV E])) :
 Pure Tryz.prog 183 #[iV a,iV b] (.tuple #[qaa N D,iV E]):=
 qad (args:=[iV a,iV b]) 400 [.t false,Rf z1,Rf z2,Rf g1,.t false,.t true,.k,.t true,Rf z1,Re q1,Rf z2,Re q2,Rf m1]
  (Ai rfl (Ai b0 (Ai z1 (Ai z2 (Ai g1 (Ai t1 (Ai t2 (Ai t3 (Ai z1 (Ai gz (Ai q1 (Ai z2 (Ai gz (Ai q2 (Ai m1 tI))))))))))))))) (by kernel_rfl)
theorem qmT {a b za zb g x y N D E:Int} (b0:(b==0)=false) (z1:qzy a za) (z2:qzN b zb) (g1:qAQ g za zb) (t1:decide (a<0)=false) (t2:decide (b<0)=true) (t3:(a !=0)=false) (gz:¬ (g:Int)=0) (q1:Value.int .u64 (IntKind.u64.wrap (za.tdiv g))=.int .u64 x) (q2:Value.int .u64 (IntKind.u64.wrap (zb.tdiv g))=.int .u64 y) (m1:que D E N x y) :
 Pure Tryz.prog 183 #[iV a,iV b] (.tuple #[qaa N D,iV E]):=
 qad (args:=[iV a,iV b]) 400 [.t false,Rf z1,Rf z2,Rf g1,.t false,.t true,.k,.t false,Rf z1,Re q1,Rf z2,Re q2,Rf m1]
  (Ai rfl (Ai b0 (Ai z1 (Ai z2 (Ai g1 (Ai t1 (Ai t2 (Ai t3 (Ai z1 (Ai gz (Ai q1 (Ai z2 (Ai gz (Ai q2 (Ai m1 tI))))))))))))))) (by kernel_rfl)
theorem qmm {a b za zb g x y N D E:Int} (b0:(b==0)=false) (z1:qzy a za) (z2:qzN b zb) (g1:qAQ g za zb) (t1:decide (a<0)=false) (t2:decide (b<0)=false) (gz:¬ (g:Int)=0) (q1:Value.int .u64 (IntKind.u64.wrap (za.tdiv g))=.int .u64 x) (q2:Value.int .u64 (IntKind.u64.wrap (zb.tdiv g))=.int .u64 y) (m1:que D E N x y) :
 Pure Tryz.prog 183 #[iV a,iV b] (.tuple #[qaa N D,iV E]):=
 qad (args:=[iV a,iV b]) 400 [.t false,Rf z1,Rf z2,Rf g1,.t false,.t false,.k,Rf z1,Re q1,Rf z2,Re q2,Rf m1]
  (Ai rfl (Ai b0 (Ai z1 (Ai z2 (Ai g1 (Ai t1 (Ai t2 (Ai z1 (Ai gz (Ai q1 (Ai z2 (Ai gz (Ai q2 (Ai m1 tI)))))))))))))) (by kernel_rfl)
theorem qp4 {pi pa pb qi qa qb n d u v x y s:Int} (v1:iV (IntKind.i64.wrap (pa-qa))=iV u) (c1:Pure Tryz.prog 84 #[iV u,iV d] (qdV x)) (v2:iV (IntKind.i64.wrap (pb-qb))=iV v) (c2:Pure Tryz.prog 84 #[iV v,iV n] (qdV y)) (c3:Pure Tryz.prog 217 #[qdV x,qdV y] (qdV s)) (c4:Pure Tryz.prog 85 #[qdV s] (iV s.sign)) :
 Pure Tryz.prog 182 #[qac pi pa pb,qac qi qa qb,qaa n d] (iV s.sign):=
 qad (args:=[qac pi pa pb,qac qi qa qb,qaa n d]) 200 [Re v1,Rf c1,Re v2,Rf c2,Rf c3,Rf c4]
  (Ai rfl (Ai v1 (Ai c1 (Ai v2 (Ai c2 (Ai c3 (Ai c4 tI))))))) (by kernel_rfl)
abbrev qwJ (d:Int) (f:Int) (n:Int) (pa:Int) (pb:Int) (pi:Int) (qa:Int) (qb:Int) (qi:Int):Prop:=Pure Tryz.prog 182 #[qac pi pa pb,qac qi qa qb,qaa n d] (iV f)
theorem qi0 {pi pa pb qi qa qb n d f:Int} (c:qwJ d f n pa pb pi qa qb qi) (z:(f !=0)=true) (g:decide (f>0)=true) :
 Pure Tryz.prog 134 #[qac pi pa pb,qac qi qa qb,qaa n d] (.bool true):=
 qad (args:=[qac pi pa pb,qac qi qa qb,qaa n d]) 200 [Rf c,.t true,.t true]
  (Ai rfl (Ai c (Ai z (Ai g tI)))) (by kernel_rfl)
theorem qni {pi pa pb qi qa qb n d f:Int} (c:qwJ d f n pa pb pi qa qb qi) (z:(f !=0)=false) (bb:(pb !=qb)=true) (g:decide (pb>qb)=true) :
 Pure Tryz.prog 134 #[qac pi pa pb,qac qi qa qb,qaa n d] (.bool true):=
 qad (args:=[qac pi pa pb,qac qi qa qb,qaa n d]) 200 [Rf c,.t false,.t true,.t true]
  (Ai rfl (Ai c (Ai z (Ai bb (Ai g tI))))) (by kernel_rfl)
theorem qnD {pi pa pb qi qa qb n d f:Int} (c:qwJ d f n pa pb pi qa qb qi) (z:(f !=0)=false) (bb:(pb !=qb)=false) (g:decide (pi<qi)=true) :
 Pure Tryz.prog 134 #[qac pi pa pb,qac qi qa qb,qaa n d] (.bool true):=
 qad (args:=[qac pi pa pb,qac qi qa qb,qaa n d]) 200 [Rf c,.t false,.t false,.t true]
  (Ai rfl (Ai c (Ai z (Ai bb (Ai g tI))))) (by kernel_rfl)
theorem qi7 {pi pa pb qi qa qb n d f:Int} (c:qwJ d f n pa pb pi qa qb qi) (z:(f !=0)=true) (g:decide (f>0)=false) :
 Pure Tryz.prog 134 #[qac pi pa pb,qac qi qa qb,qaa n d] (.bool false):=
 qad (args:=[qac pi pa pb,qac qi qa qb,qaa n d]) 200 [Rf c,.t true,.t false]
  (Ai rfl (Ai c (Ai z (Ai g tI)))) (by kernel_rfl)
theorem qnc {pi pa pb qi qa qb n d f:Int} (c:qwJ d f n pa pb pi qa qb qi) (z:(f !=0)=false) (bb:(pb !=qb)=true) (g:decide (pb>qb)=false) :
 Pure Tryz.prog 134 #[qac pi pa pb,qac qi qa qb,qaa n d] (.bool false):=
 qad (args:=[qac pi pa pb,qac qi qa qb,qaa n d]) 200 [Rf c,.t false,.t true,.t false]
  (Ai rfl (Ai c (Ai z (Ai bb (Ai g tI))))) (by kernel_rfl)
theorem ql7 {pi pa pb qi qa qb n d f:Int} (c:qwJ d f n pa pb pi qa qb qi) (z:(f !=0)=false) (bb:(pb !=qb)=false) (g:decide (pi<qi)=false) :
 Pure Tryz.prog 134 #[qac pi pa pb,qac qi qa qb,qaa n d] (.bool false):=
 qad (args:=[qac pi pa pb,qac qi qa qb,qaa n d]) 200 [Rf c,.t false,.t false,.t false]
  (Ai rfl (Ai c (Ai z (Ai bb (Ai g tI))))) (by kernel_rfl)
theorem qqg {pi pa pb qi qa qb x y m k:Int} (v1:iV (IntKind.i64.wrap (pa-qa))=iV x) (v2:iV (IntKind.i64.wrap (qb-pb))=iV y) (c1:Pure Tryz.prog 183 #[iV x,iV y] (.tuple #[qaa m k,iV 0])) :
 Pure Tryz.prog 135 #[qac pi pa pb,qac qi qa qb] (qaa m k):=
 qad (args:=[qac pi pa pb,qac qi qa qb]) 200 [Re v1,Re v2,Rf c1]
  (Ai rfl (Ai v1 (Ai v2 (Ai c1 tI)))) (by kernel_rfl)
theorem qiB {pi pa pb qi qa qb n d:Int} (l:Pure Tryz.prog 134 #[qac qi qa qb,qac pi pa pb,qaa n d] (.bool true)) :
 Pure Tryz.prog 83 #[qac pi pa pb,qac qi qa qb,qaa n d] (.tuple #[qaa n d,.bool true]):=
 qad (args:=[qac pi pa pb,qac qi qa qb,qaa n d]) 200 [Rf l]
  (Ai rfl (Ai l tI)) (by kernel_rfl)
theorem qiq {pi pa pb qi qa qb n d m k:Int} (l:Pure Tryz.prog 134 #[qac qi qa qb,qac pi pa pb,qaa n d] (.bool false)) (g:decide (qb>pb)=true) (m1:Pure Tryz.prog 135 #[qac pi pa pb,qac qi qa qb] (qaa m k)) :
 Pure Tryz.prog 83 #[qac pi pa pb,qac qi qa qb,qaa n d] (.tuple #[qaa m k,.bool true]):=
 qad (args:=[qac pi pa pb,qac qi qa qb,qaa n d]) 200 [Rf l,.t true,Rf m1]
  (Ai rfl (Ai l (Ai g (Ai m1 tI)))) (by kernel_rfl)
theorem qfP {pi pa pb qi qa qb n d:Int} (l:Pure Tryz.prog 134 #[qac qi qa qb,qac pi pa pb,qaa n d] (.bool false)) (g:decide (qb>pb)=false) :
 Pure Tryz.prog 83 #[qac pi pa pb,qac qi qa qb,qaa n d] (.tuple #[qaa 0 0,.bool false]):=
 qad (args:=[qac pi pa pb,qac qi qa qb,qaa n d]) 200 [Rf l,.t false]
  (Ai rfl (Ai l (Ai g tI))) (by kernel_rfl)
abbrev qr4 (d:Int) (n:Int):Prop:=Pure Tryz.prog 49 #[qaa n d] (iV 0)
abbrev qrZ (pa:Int) (pb:Int) (pi:Int) (qa:Int) (qb:Int) (qi:Int):Prop:=Pure Tryz.prog 142 #[qac pi pa pb,qac qi qa qb] (iV 0)
abbrev qrR (pa:Int) (pb:Int) (pi:Int):Prop:=Pure Tryz.prog 95 #[qac pi pa pb] (iV 0)
abbrev qrO (qa:Int) (qb:Int) (qi:Int):Prop:=Pure Tryz.prog 95 #[qac qi qa qb] (iV 0)
theorem qrE {pi pa pb qi qa qb n d:Int} (cp:qrR pa pb pi) (cq:qrO qa qb qi) (ct:qr4 d n) (ci:qrZ pa pb pi qa qb qi) (w:(qa==pa&&(qb==pb&&true))=true) (r:decide (qi<pi)=true) :
 Pure Tryz.prog 154 #[qac pi pa pb,qac qi qa qb,qaa n d] (.tuple #[qaa n d,.bool true,iV 0]):=
 qad (args:=[qac pi pa pb,qac qi qa qb,qaa n d]) 400 [Rf cp,Rf cp,Rf cp,Rf cp,.k,.k,.k,.k,.k,.k,.k,.k,.k,.k,.k,.k,.k,.k,.k,.k,.k,.k,.t true,.k,.t true]
  (Ai rfl (Ai cp (Ai cq (Ai ct (Ai ci (Ai w (Ai r tI))))))) (by kernel_rfl)
theorem qps {pi pa pb qi qa qb n d:Int} (cp:qrR pa pb pi) (cq:qrO qa qb qi) (ct:qr4 d n) (ci:qrZ pa pb pi qa qb qi) (w:(qa==pa&&(qb==pb&&true))=true) (r:decide (qi<pi)=false) (gb:decide (qb>pb)=false) :
 Pure Tryz.prog 154 #[qac pi pa pb,qac qi qa qb,qaa n d] (.tuple #[qaa 0 0,.bool false,iV 0]):=
 qad (args:=[qac pi pa pb,qac qi qa qb,qaa n d]) 400 [Rf cp,Rf cp,Rf cp,Rf cp,.k,.k,.k,.k,.k,.k,.k,.k,.k,.k,.k,.k,.k,.k,.k,.k,.k,.k,.t true,.k,.t false,.t false]
  (Ai rfl (Ai cp (Ai cq (Ai ct (Ai ci (Ai w (Ai r (Ai gb tI)))))))) (by kernel_rfl)
theorem qq3 {pi pa pb qi qa qb n d:Int} (cp:qrR pa pb pi) (cq:qrO qa qb qi) (ct:qr4 d n) (ci:qrZ pa pb pi qa qb qi) (w:(qa==pa&&(qb==pb&&true))=false) (bb:(qb==pb)=true) (r:decide (qa>pa)=true) :
 Pure Tryz.prog 154 #[qac pi pa pb,qac qi qa qb,qaa n d] (.tuple #[qaa n d,.bool true,iV 0]):=
 qad (args:=[qac pi pa pb,qac qi qa qb,qaa n d]) 400 [Rf cp,Rf cp,Rf cp,Rf cp,.k,.k,.k,.k,.k,.k,.k,.k,.k,.k,.k,.k,.k,.k,.k,.k,.k,.k,.t false,.t true,.k,.t true]
  (Ai rfl (Ai cp (Ai cq (Ai ct (Ai ci (Ai w (Ai bb (Ai r tI)))))))) (by kernel_rfl)
theorem qoY {pi pa pb qi qa qb n d:Int} (cp:qrR pa pb pi) (cq:qrO qa qb qi) (ct:qr4 d n) (ci:qrZ pa pb pi qa qb qi) (w:(qa==pa&&(qb==pb&&true))=false) (bb:(qb==pb)=true) (r:decide (qa>pa)=false) (gb:decide (qb>pb)=false) :
 Pure Tryz.prog 154 #[qac pi pa pb,qac qi qa qb,qaa n d] (.tuple #[qaa 0 0,.bool false,iV 0]):=
 qad (args:=[qac pi pa pb,qac qi qa qb,qaa n d]) 400 [Rf cp,Rf cp,Rf cp,Rf cp,.k,.k,.k,.k,.k,.k,.k,.k,.k,.k,.k,.k,.k,.k,.k,.k,.k,.k,.t false,.t true,.k,.t false,.t false]
  (Ai rfl (Ai cp (Ai cq (Ai ct (Ai ci (Ai w (Ai bb (Ai r (Ai gb tI))))))))) (by kernel_rfl)
abbrev qBr (c:Int) (d:Int) (md:Int) (mn:Int) (n:Int):Prop:=Pure Tryz.prog 116 #[qaa n d,qaa mn md] (.tuple #[iV c,iV 0])
theorem qmS {pi pa pb qi qa qb n d mn md c:Int} (cp:qrR pa pb pi) (cq:qrO qa qb qi) (ct:qr4 d n) (ci:qrZ pa pb pi qa qb qi) (w:(qa==pa&&(qb==pb&&true))=false) (bb:(qb==pb)=false) (cm:Pure Tryz.prog 188 #[qac qi qa qb,qac pi pa pb] (qaa mn md)) (cc:qBr c d md mn n) (g1:decide (c≥0)=true) (gb:decide (qb>pb)=true) :
 Pure Tryz.prog 154 #[qac pi pa pb,qac qi qa qb,qaa n d] (.tuple #[qaa n d,.bool true,iV 0]):=
 qad (args:=[qac pi pa pb,qac qi qa qb,qaa n d]) 400 [Rf cp,Rf cp,Rf cp,Rf cp,.k,.k,.k,.k,.k,.k,.k,.k,.k,.k,.k,.k,.k,.k,.k,.k,.k,.k,.t false,.t false,Rf cm,.k,Rf cc,.t true,.t true,.k]
  (Ai rfl (Ai cp (Ai cq (Ai ct (Ai ci (Ai w (Ai bb (Ai cm (Ai cc (Ai g1 (Ai gb tI))))))))))) (by kernel_rfl)
theorem qmx {pi pa pb qi qa qb n d mn md c:Int} (cp:qrR pa pb pi) (cq:qrO qa qb qi) (ct:qr4 d n) (ci:qrZ pa pb pi qa qb qi) (w:(qa==pa&&(qb==pb&&true))=false) (bb:(qb==pb)=false) (cm:Pure Tryz.prog 188 #[qac qi qa qb,qac pi pa pb] (qaa mn md)) (cc:qBr c d md mn n) (g1:decide (c≥0)=true) (gb:decide (qb>pb)=false) :
 Pure Tryz.prog 154 #[qac pi pa pb,qac qi qa qb,qaa n d] (.tuple #[qaa 0 0,.bool false,iV 0]):=
 qad (args:=[qac pi pa pb,qac qi qa qb,qaa n d]) 400 [Rf cp,Rf cp,Rf cp,Rf cp,.k,.k,.k,.k,.k,.k,.k,.k,.k,.k,.k,.k,.k,.k,.k,.k,.k,.k,.t false,.t false,Rf cm,.k,Rf cc,.t true,.t false,.k,.t false]
  (Ai rfl (Ai cp (Ai cq (Ai ct (Ai ci (Ai w (Ai bb (Ai cm (Ai cc (Ai g1 (Ai gb (Ai gb tI)))))))))))) (by kernel_rfl)
theorem qnI {pi pa pb qi qa qb n d mn md c m k:Int} (cp:qrR pa pb pi) (cq:qrO qa qb qi) (ct:qr4 d n) (ci:qrZ pa pb pi qa qb qi) (w:(qa==pa&&(qb==pb&&true))=false) (bb:(qb==pb)=false) (cm:Pure Tryz.prog 188 #[qac qi qa qb,qac pi pa pb] (qaa mn md)) (cc:qBr c d md mn n) (g1:decide (c≥0)=false) (gb:decide (qb>pb)=true) (mt:Pure Tryz.prog 188 #[qac pi pa pb,qac qi qa qb] (qaa m k)) :
 Pure Tryz.prog 154 #[qac pi pa pb,qac qi qa qb,qaa n d] (.tuple #[qaa m k,.bool true,iV 0]):=
 qad (args:=[qac pi pa pb,qac qi qa qb,qaa n d]) 400 [Rf cp,Rf cp,Rf cp,Rf cp,.k,.k,.k,.k,.k,.k,.k,.k,.k,.k,.k,.k,.k,.k,.k,.k,.k,.k,.t false,.t false,Rf cm,.k,Rf cc,.t false,.t true,.k,.t true,Rf mt]
  (Ai rfl (Ai cp (Ai cq (Ai ct (Ai ci (Ai w (Ai bb (Ai cm (Ai cc (Ai g1 (Ai gb (Ai gb (Ai mt tI))))))))))))) (by kernel_rfl)
theorem ql5 {pi pa pb qi qa qb n d mn md c:Int} (cp:qrR pa pb pi) (cq:qrO qa qb qi) (ct:qr4 d n) (ci:qrZ pa pb pi qa qb qi) (w:(qa==pa&&(qb==pb&&true))=false) (bb:(qb==pb)=false) (cm:Pure Tryz.prog 188 #[qac qi qa qb,qac pi pa pb] (qaa mn md)) (cc:qBr c d md mn n) (g1:decide (c≥0)=false) (gb:decide (qb>pb)=false) :
 Pure Tryz.prog 154 #[qac pi pa pb,qac qi qa qb,qaa n d] (.tuple #[qaa n d,.bool true,iV 0]):=
 qad (args:=[qac pi pa pb,qac qi qa qb,qaa n d]) 400 [Rf cp,Rf cp,Rf cp,Rf cp,.k,.k,.k,.k,.k,.k,.k,.k,.k,.k,.k,.k,.k,.k,.k,.k,.k,.k,.t false,.t false,Rf cm,.k,Rf cc,.t false,.t false,.k]
  (Ai rfl (Ai cp (Ai cq (Ai ct (Ai ci (Ai w (Ai bb (Ai cm (Ai cc (Ai g1 (Ai gb tI))))))))))) (by kernel_rfl)
end Go.Proofs.YtkjaanhddkkodaaGreat

namespace Go.Proofs.YtkjaanhddkkodaaGreat
set_option maxRecDepth 100000
open Go.RowKit
theorem qjJ {x:Nat} (h:x<18446744073709551616):qik false x=qax false 0 (x:Int):=by
 unfold qik
 rw[show x/18446744073709551616=0 by omega,show x%18446744073709551616=x by omega]
 rfl
theorem qme {a b:Int} (ha:I64 a) (hb:I64 b) (h0:b≠0):∃ N D E,IsRes a b N D E∧Pure Tryz.prog 183 #[.int .i64 a,.int .i64 b] (.tuple #[qaa N D,.int .i64 E]):=by
 have za:=qdS a ha
 have zb:=qdS b hb
 unfold I64 at ha hb
 obtain⟨g,hg⟩:∃ g,g=Nat.gcd a.natAbs b.natAbs:=⟨_,rfl⟩
 have g0:0<g:=hg▸Nat.gcd_pos_of_pos_right _ (by omega)
 have gg:=qiT a.natAbs b.natAbs g (by omega) (by omega) hg
 obtain⟨x,hx⟩:∃ x,x=a.natAbs/g:=⟨_,rfl⟩
 obtain⟨y,hy⟩:∃ y,y=b.natAbs/g:=⟨_,rfl⟩
 have ax:a.natAbs=g*x:=by rw[hx,hg];exact (Nat.mul_div_cancel' (Nat.gcd_dvd_left _ _)).symm
 have bY:b.natAbs=g*y:=by rw[hy,hg];exact (Nat.mul_div_cancel' (Nat.gcd_dvd_right _ _)).symm
 have hxy:Nat.gcd x y=1:=by rw[hx,hy,hg];exact Nat.gcd_div_gcd_div_gcd_of_pos_right (by omega)
 have y0:0<y:=by
  rcases Nat.eq_zero_or_pos y with e | e
  ·rw[e,Nat.mul_zero] at bY;omega
  ·exact e
 have lx:=Nat.div_le_self a.natAbs g
 have ly:=Nat.div_le_self b.natAbs g
 rw[← hx] at lx
 rw[← hy] at ly
 have q1:=qEw (x:=a.natAbs) (y:=g) (by omega)
 have q2:=qEw (x:=b.natAbs) (y:=g) (by omega)
 rw[← hx] at q1
 rw[← hy] at q2
 have md:∀ neg,Pure Tryz.prog 218 #[.bool neg,qax false 0 (x:Int),qax false 0 (y:Int)] (.tuple #[qaa (qea (qbr x&&qbr y) (sgV x neg)) (qea (qbr x&&qbr y) (y:Int)),.int .i64 (qnt (qbr x&&qbr y))]):=by
  intro neg
  have:=ql9 neg false false x y
  rwa [qjJ (by omega),qjJ (by omega)] at this
 have fin:∀ (T:Int) (neg:Bool),T.natAbs=x→decide (T<0)=neg→T*b=a*(y:Int)→IsRes a b (qea (qbr x&&qbr y) (sgV x neg)) (qea (qbr x&&qbr y) (y:Int)) (qnt (qbr x&&qbr y)):=by
  intro T neg h1 h2 h3
  have:=qkc (p:=a) (q:=b) (T:=T) (U:=(y:Int)) h0 (by omega) (by rw[h1,Int.natAbs_natCast];exact hxy) h3
  rw[h1,h2,Int.natAbs_natCast,df (show ¬ (y:Int)<0 by omega),qsF (fun h=>by simp only[Bool.and_eq_true] at h;simpa [qbr] using h.2)] at this
  exact this
 have gz:¬ (g:Int)=0:=by omega
 have cx:(x:Int)*((g*y:Nat):Int)=((g*x:Nat):Int)*(y:Int):=by rw[← Int.natCast_mul,← Int.natCast_mul];congr 1;rw[Nat.mul_left_comm,Nat.mul_assoc]
 by_cases sa:a<0<;>by_cases sb:b<0
 ·refine⟨_,_,_,fin (x:Int) false (by simp) (df (by omega)) ?_,qoD (by simp[h0]) za zb gg (dt sa) (dt sb) gz q1 q2 (md false)⟩
  rw[show b = -((g*y:Nat):Int) by omega,show a = -((g*x:Nat):Int) by omega,Int.mul_neg,Int.neg_mul,cx]
 ·refine⟨_,_,_,fin (-(x:Int)) true (by simp) (dt ?_) ?_,qm9 (by simp[h0]) za zb gg (dt sa) (df sb) (by simp;omega) gz q1 q2 (md true)⟩
  ·rcases Nat.eq_zero_or_pos x with e | e
   ·rw[e,Nat.mul_zero] at ax;omega
   ·omega
  ·rw[show b=((g*y:Nat):Int) by omega,show a = -((g*x:Nat):Int) by omega,Int.neg_mul,Int.neg_mul,cx]
 ·by_cases z:a=0
  ·refine⟨_,_,_,fin 0 false ?_ rfl (by rw[z];simp),qmT (by simp[h0]) za zb gg (df sa) (dt sb) (by simp[z]) gz q1 q2 (md false)⟩
   rw[hx,z];simp
  ·refine⟨_,_,_,fin (-(x:Int)) true (by simp) (dt ?_) ?_,qn8 (by simp[h0]) za zb gg (df sa) (dt sb) (by simp[z]) gz q1 q2 (md true)⟩
   ·rcases Nat.eq_zero_or_pos x with e | e
    ·rw[e,Nat.mul_zero] at ax;omega
    ·omega
   ·rw[show b = -((g*y:Nat):Int) by omega,show a=((g*x:Nat):Int) by omega,Int.neg_mul_neg,cx]
 ·refine⟨_,_,_,fin (x:Int) false (by simp) (df (by omega)) ?_,qmm (by simp[h0]) za zb gg (df sa) (df sb) gz q1 q2 (md false)⟩
  rw[show b=((g*y:Nat):Int) by omega,show a=((g*x:Nat):Int) by omega,cx]
theorem qAW {pi pa pb qi qa qb m k:Int} (hp:okP pi pa pb=true) (hq:okP qi qa qb=true) (hb:pb≠qb) (h1:okB m k=true) (h2:I64 m) (h3:I64 k) (h4:m*(pb-qb)=(qa-pa)*k) :
 Pure Tryz.prog 135 #[qac pi pa pb,qac qi qa qb] (qaa m k):=by
 have hp':=qch.1 hp
 have hq':=qch.1 hq
 obtain⟨N,D,E,hr,hm⟩:=qme (a:=pa-qa) (b:=qb-pb) (by unfold I64;omega) (by unfold I64;omega) (by omega)
 obtain⟨rfl,rfl,rfl⟩:=hr.one (by omega) h1 h2 h3 (by
  rw[show qb-pb = -(pb-qb) by omega,show pa-qa = -(qa-pa) by omega,Int.mul_neg,Int.neg_mul,h4])
 exact qqg (by rw[qaq (by omega) (by omega)]) (by rw[qaq (by omega) (by omega)]) hm
theorem qq4 {pi pa pb qi qa qb n d:Int} (hn:I64 n) (hd:I64 d) (hp:okP pi pa pb=true) (hq:okP qi qa qb=true) :
 Pure Tryz.prog 134 #[qac pi pa pb,qac qi qa qb,qaa n d] (.bool (qbk (pa*d+pb*n) (qa*d+qb*n) pb qb pi qi)):=by
 have hp':=qch.1 hp
 have hq':=qch.1 hq
 have c1:=qb5 (pa-qa) d (by unfold I64;omega) hd
 have c2:=qb5 (pb-qb) n (by unfold I64;omega) hn
 have b1:((pa-qa)*d).natAbs≤2097152*9223372036854775808:=by rw[Int.natAbs_mul];unfold I64 at hd;exact Nat.mul_le_mul (by omega) (by omega)
 have b2:((pb-qb)*n).natAbs≤2097152*9223372036854775808:=by rw[Int.natAbs_mul];unfold I64 at hn;exact Nat.mul_le_mul (by omega) (by omega)
 have c3:=qoh ((pa-qa)*d) ((pb-qb)*n) (by omega) (by omega)
 have e:(pa-qa)*d+(pb-qb)*n=pa*d+pb*n-(qa*d+qb*n):=by rw[Int.sub_mul,Int.sub_mul];omega
 rw[e] at c3
 have c4:=qfr (pa*d+pb*n-(qa*d+qb*n))
 have far:=qp4 (pi:=pi) (pa:=pa) (pb:=pb) (qi:=qi) (qa:=qa) (qb:=qb) (by rw[qaq (by omega) (by omega)]) c1 (by rw[qaq (by omega) (by omega)]) c2 c3 c4
 generalize pa*d+pb*n=P at *
 generalize qa*d+qb*n=Q at *
 rcases Int.lt_trichotomy (P-Q) 0 with h | h | h
 ·rw[Int.sign_eq_neg_one_of_neg h] at far
  rw[qcV (by omega)]
  exact qi7 far (by decide) (by decide)
 ·rw[h] at far
  by_cases hb:pb=qb
  ·by_cases hi:pi<qi
   ·rw[qdi (by omega)];exact qnD far (by decide) (by simp[hb]) (dt hi)
   ·rw[qcV (by omega)];exact ql7 far (by decide) (by simp[hb]) (df hi)
  ·by_cases hg:pb>qb
   ·rw[qdi (by omega)];exact qni far (by decide) (by simp[hb]) (dt hg)
   ·rw[qcV (by omega)];exact qnc far (by decide) (by simp[hb]) (df hg)
 ·rw[Int.sign_eq_one_of_pos h] at far
  rw[qdi (by omega)]
  exact qi0 far (by decide) (by decide)
end Go.Proofs.YtkjaanhddkkodaaGreat

namespace Go.Proofs.YtkjaanhddkkodaaGreat
set_option maxRecDepth 100000
open Go.RowKit
structure Pt where
 id:Int
 a:Int
 b:Int
abbrev ptV (p:Pt):Value:=qac p.id p.a p.b
def qbd:List Pt→List Value
 | []=>[]
 | p::r=>iV p.id::iV p.a::iV p.b::qbd r
theorem qbU:∀ (a b:List Pt),qbd (a++b)=qbd a++qbd b
 | [],_=>rfl
 | p::r,b=>by simp[qbd,qbU r b]
theorem qcv:∀ (l:List Pt),(qbd l).length=l.length*3
 | []=>rfl
 | p::r=>by simp[qbd,qcv r];omega
theorem qc6:∀ {l:List Pt} {k:Nat} {p:Pt},l[k]?=some p→(qbd l)[k*3]?=some (iV p.id)∧(qbd l)[k*3+1]?=some (iV p.a)∧(qbd l)[k*3+2]?=some (iV p.b)
 | [],k,p,h=>by simp at h
 | q::r,0,p,h=>by simp at h;subst h;exact⟨rfl,rfl,rfl⟩
 | q::r,k+1,p,h=>by
  have:=qc6 (l:=r) (k:=k) (p:=p) (by simpa using h)
  rw[show (k+1)*3=k*3+1+1+1 by omega]
  exact this
theorem qaN {l:List Pt} {k:Nat} {p:Pt} (h:l[k]?=some p):qcP (qbd l) (0*3+k*3) [iV p.id,iV p.a,iV p.b]:=by
 obtain⟨h1,h2,h3⟩:=qc6 h
 intro j v hj
 rw[show 0*3+k*3+j=k*3+j by omega]
 match j,hj with
 | 0,hj=>cases hj;exact h1
 | 1,hj=>cases hj;exact h2
 | 2,hj=>cases hj;exact h3
 | j+3,hj=>simp at hj
theorem qcO {l:List Pt} {k:Nat} {p:Pt} (h:l[k]?=some p):qcP (qbd l) (0*3+k*3) [iV p.id]:=by
 intro j v hj
 rw[show 0*3+k*3+j=k*3+j by omega]
 match j,hj with
 | 0,hj=>cases hj;exact (qc6 h).1
 | j+1,hj=>simp at hj
theorem RunsL.rounds {P:Program} {lo fr:Nat} {c:Code} {n nb:Nat} (tm:Nat→List (Nat×SV)) (hp:Nat→List (Nat×Nat×SV)) {e:Exit} {tm2:TmL} {hp2:HpL} {N:Nat} :
 ∀ (d i:Nat),i+d=N→(∀ j,i≤j→j<N→RunsL P lo fr c n nb (tm (j+1)) (hp (j+1)) e tm2 hp2→RunsL P lo fr c n nb (tm j) (hp j) e tm2 hp2)→RunsL P lo fr c n nb (tm N) (hp N) e tm2 hp2→RunsL P lo fr c n nb (tm i) (hp i) e tm2 hp2
 | 0,i,h,_,last=>by
  have:i=N:=by omega
  subst this;exact last
 | d+1,i,h,step,last=>step i (Nat.le_refl i) (by omega) (RunsL.rounds tm hp d (i+1) (by omega) (fun j h1 h2=>step j (by omega) h2) last)
abbrev qaj (l:List Pt):SV:=.row 57 3 l.length (qbd l)
abbrev qaE (b:Nat) (l:List Pt):SV:=.ag [.ls b l.length]
theorem qay {k:Nat} (h:k≤1000000):iV (IntKind.i64.wrap ((k:Int)+1))=iV ((k+1:Nat):Int):=by rw[qaq (by omega) (by omega)];rfl
theorem qx6 (l:List Pt):SV.ag [.ls 4 (0+l.length)]=(SV.ag [.ls 1 l.length]).ren (qaK [(1,4)]):=by rw[Nat.zero_add];rfl
theorem qj5 (l:List Pt):some (SV.row 57 3 (0+l.length) ([]++qbd l))=some (qaj l):=by rw[Nat.zero_add,List.nil_append]
theorem qj8 (m:List Pt) (p:Pt):qbd m++[iV p.id,iV p.a,iV p.b]=qbd (m++[p]):=by rw[qbU];rfl
theorem qeY:∀ (l:List Pt) (k:Nat),(qbd l).drop (k*3)=qbd (l.drop k)
 | l,0=>by simp
 | [],k+1=>by simp[qbd]
 | p::r,k+1=>by rw[show (k+1)*3=k*3+1+1+1 by omega,List.drop_succ_cons];exact qeY r k
theorem qe8:∀ (l:List Pt) (k:Nat),(qbd l).take (k*3)=qbd (l.take k)
 | l,0=>by simp[qbd]
 | [],k+1=>by simp[qbd]
 | p::r,k+1=>by rw[show (k+1)*3=k*3+1+1+1 by omega,List.take_succ_cons];exact congrArg (fun z=>iV p.id::iV p.a::iV p.b::z) (qe8 r k)
theorem qji (l:List Pt) (k:Nat):((qbd l).drop ((0+0)*3)).take (k*3)=qbd (l.take k):=by rw[Nat.zero_add,qeY,qe8];rfl
theorem qjb (l:List Pt) (k:Nat):((qbd l).drop ((0+k)*3)).take ((l.length-k)*3)=qbd (l.drop k):=by rw[Nat.zero_add,qeY,qe8,List.take_of_length_le (by simp)]
theorem qgw (l:List Pt) (k:Nat) (h:k+1≤l.length):(l.take k++l.drop (k+1)).length=0+k+(l.length-(k+1)):=by simp;omega
theorem qvk (x:Int):(!(x==x))=false:=by simp
theorem qu9 (l:List Pt):SV.ls 2 (0+l.length)=(SV.ls 1 l.length).ren (qaK [(1,2)]):=by rw[Nat.zero_add];rfl
end Go.Proofs.YtkjaanhddkkodaaGreat

namespace Go.Proofs.YtkjaanhddkkodaaGreat
set_option maxRecDepth 100000
open Go.RowKit
theorem qkW {l:List Pt} (h0:0<l.length) (hn:0+l.length≤1000000) :
 Fn 100 1 [.ls 0 l.length] [(0,0,qaj l)] (.ls 1 l.length) 1 [(1,0,qaj l)]:=
 Fx [(1,2)] [.t false]
  (qu9 l) (Ai (qj5 l) tI) (Ai h0 (Ai hn tI))
theorem qtI {ad:Addr} {c:Nat} :
 Fn 100 0 [.pv (.slice (some ad) 0 c)] [] (.ls 0 0) 1 [(0,0,qaj ([]:List Pt))]:=
 Fz [(0,1)] [.k]
  (qaG (qaK [(0,1)]) [(0,0,qaj ([]:List Pt))]) (Ai (Nat.zero_le _:0+0≤1000000) tI)
theorem qmv {c:Nat}:Pure Tryz.prog 100 #[.slice none 0 c] (.slice none 0 0):=
 qad (args:=[.slice none 0 c]) 200 [] (Ai rfl tI) (by kernel_rfl)
end Go.Proofs.YtkjaanhddkkodaaGreat

namespace Go.Proofs.YtkjaanhddkkodaaGreat
set_option maxRecDepth 100000
open Go.RowKit
theorem qn6 {l:List Pt} (hn:0+l.length≤1000000) :
 Fn 32 1 [qaE 0 l] [(0,0,qaj l)] (.ag [.ls 1 l.length]) 1 [(1,0,qaj l)]:=
 Fx [(1,4)] []
  (qx6 l) (Ai (qj5 l) tI) (Ai hn tI)
abbrev qBM (l:List Pt) (m:List Pt):HpL:=[(2,0,.ls 0 l.length),(3,0,.ls 1 m.length),(0,0,qaj l),(1,0,qaj m)]
theorem qoa {l m:List Pt} {k:Nat} {p q:Pt} (hk:l[k]?=some p) (hin:0≤(k:Int)∧(k:Int)<(l.length:Int)) (hq:m[k]?=some q) (hin2:0≤(k:Int)∧(k:Int)<(m.length:Int)) (hlt:decide ((k:Int)<(l.length:Int))=true) (hne:(!(p.id==q.id&&(p.a==q.a&&(p.b==q.b&&true))))=false) (hs:iV (IntKind.i64.wrap ((k:Int)+1))=iV (((k+1:Nat):Int))) {e:Exit} {tm2:TmL} {hp2:HpL}
 (r:Rl 2 2 36 0 31 4 ([(2,.pp 2 0),(3,.pp 3 0),(5,.pv (iV ((k+1:Nat):Int)))]) (qBM l m) e tm2 hp2):Rl 2 2 36 0 31 4 ([(2,.pp 2 0),(3,.pp 3 0),(5,.pv (iV (k:Int)))]) (qBM l m) e tm2 hp2:=
 RunsL.next [] 300 [.t true,.r (ptV p),.r (ptV q),.t false,Re hs]
  (Ro (Ai hlt (Ai hin (Ai (qaN hk) (Ai hin2 (Ai (qaN hq) (Ai hne (Ai hs tI)))))))) r
theorem qrw {l m:List Pt} {k:Nat} (hge:decide ((k:Int)<(l.length:Int))=false):Rl 2 2 36 0 31 4 ([(2,.pp 2 0),(3,.pp 3 0),(5,.pv (iV (k:Int)))]) (qBM l m) (.exit 0) ([]) ([]):=
 RunsL.stop [] 300 [.t false] (fun h=>by cases h)
  (Ro (Ai hge tI))
theorem qpH {l m:List Pt} (hl:(!((l.length:Int)==(m.length:Int)))=false) (r0:Rl 2 2 36 0 31 4 ([(2,.pp 2 0),(3,.pp 3 0),(5,.pv (iV ((0:Nat):Int)))]) (qBM l m) (.exit 0) ([]) ([])) :
 Fn 36 2 [qaE 0 l,qaE 1 m] [(0,0,qaj l),(1,0,qaj m)] (.pv (.bool true)) 0 []:=
 Fz [] [.t false,Lf r0]
  tI (Ai hl (Lo r0 [] tI))
end Go.Proofs.YtkjaanhddkkodaaGreat

namespace Go.Proofs.YtkjaanhddkkodaaGreat
set_option maxRecDepth 100000
open Go.RowKit
theorem qnl {l:List Pt} {k:Nat} {p:Pt} {id:Int} (hk:l[k]?=some p) (hin:0≤(k:Int)∧(k:Int)<(l.length:Int)) (hlt:decide ((k:Int)<(l.length:Int))=true) (he:(p.id==id)=false) (hs:iV (IntKind.i64.wrap ((k:Int)+1))=iV (((k+1:Nat):Int))) {e:Exit} {tm2:TmL} {hp2:HpL}
 (r:Rl 1 1 72 0 22 2 ([(1,.pv (iV id)),(2,.pp 1 0),(5,.pv (iV ((k+1:Nat):Int)))]) ([(1,0,.ls 0 l.length),(0,0,qaj l)]) e tm2 hp2):Rl 1 1 72 0 22 2 ([(1,.pv (iV id)),(2,.pp 1 0),(5,.pv (iV (k:Int)))]) ([(1,0,.ls 0 l.length),(0,0,qaj l)]) e tm2 hp2:=
 RunsL.next [] 300 [.t true,.r (iV p.id),.t false,Re hs]
  (Ro (Ai hlt (Ai hin (Ai (qcO hk) (Ai he (Ai hs tI)))))) r
theorem qzm {l:List Pt} {k:Nat} {p:Pt} {id:Int} (hk:l[k]?=some p) (hin:0≤(k:Int)∧(k:Int)<(l.length:Int)) (hlt:decide ((k:Int)<(l.length:Int))=true) (he:(p.id==id)=true):Rl 1 1 72 0 22 2 ([(1,.pv (iV id)),(2,.pp 1 0),(5,.pv (iV (k:Int)))]) ([(1,0,.ls 0 l.length),(0,0,qaj l)]) (.ret) ([(4,.pv (iV (k:Int)))]) ([]):=
 RunsL.stop [] 300 [.t true,.r (iV p.id),.t true] (fun h=>by cases h)
  (Ro (Ai hlt (Ai hin (Ai (qcO hk) (Ai he tI)))))
theorem qyu {l:List Pt} {k:Nat} {id:Int} (hge:decide ((k:Int)<(l.length:Int))=false):Rl 1 1 72 0 22 2 ([(1,.pv (iV id)),(2,.pp 1 0),(5,.pv (iV (k:Int)))]) ([(1,0,.ls 0 l.length),(0,0,qaj l)]) (.exit 0) ([]) ([]):=
 RunsL.stop [] 300 [.t false] (fun h=>by cases h)
  (Ro (Ai hge tI))
theorem qBS {l:List Pt} {id:Int} (r0:Rl 1 1 72 0 22 2 ([(1,.pv (iV id)),(2,.pp 1 0),(5,.pv (iV ((0:Nat):Int)))]) ([(1,0,.ls 0 l.length),(0,0,qaj l)]) (.exit 0) ([]) ([])) :
 Fn 72 1 [qaE 0 l,.pv (iV (id))] [(0,0,qaj l)] (.pv (iV (-1))) 0 []:=
 Fz [] [Lf r0]
  tI (Lo r0 [] tI)
theorem qz0 {l:List Pt} {k:Nat} {id:Int} (r0:Rl 1 1 72 0 22 2 ([(1,.pv (iV id)),(2,.pp 1 0),(5,.pv (iV ((0:Nat):Int)))]) ([(1,0,.ls 0 l.length),(0,0,qaj l)]) (.ret) ([(4,.pv (iV (k:Int)))]) ([])) :
 Fn 72 1 [qaE 0 l,.pv (iV (id))] [(0,0,qaj l)] (.pv (iV (k:Int))) 0 []:=
 Fz [] [Lf r0]
  tI (Lo r0 [] tI)
end Go.Proofs.YtkjaanhddkkodaaGreat

namespace Go.Proofs.YtkjaanhddkkodaaGreat
set_option maxRecDepth 100000
open Go.ChangeShapes Go.WideShapes Go.ChangeAt Go.RowKit Go.Joins Go.Deep
section
variable {H:Type} {enc:TypeId×Value→H} {W:World} {base:Nat} {spare:Nat→Bool} {held:Bool}
end
theorem qcL:∀ (l:List Pt) (v:Value),v∈qbd l→v.oneCell'=true
 | [],_,h=>by simp[qbd] at h
 | p::r,v,h=>by
  simp only[qbd,List.mem_cons] at h
  rcases h with rfl | rfl | rfl | h
  ·rfl
  ·rfl
  ·rfl
  ·exact qcL r v h
end Go.Proofs.YtkjaanhddkkodaaGreat

namespace Go.Proofs.YtkjaanhddkkodaaGreat
set_option maxRecDepth 100000
open Go.RowKit
theorem qjZ {l:List Pt} {k:Nat} {p:Pt} (hk:l[k]?=some p) (hin:0≤(k:Int)∧(k:Int)<(l.length:Int)) (hlt:decide ((k:Int)<(l.length:Int))=true) (hc:Pure Tryz.prog 94 #[qac p.id p.a p.b] (iV (0))) (hs:iV (IntKind.i64.wrap ((k:Int)+1))=iV (((k+1:Nat):Int))) {e:Exit} {tm2:TmL} {hp2:HpL}
 (r:Rl 1 1 44 0 44 2 ([(1,.pp 1 0),(3,.pv (iV ((k+1:Nat):Int)))]) ([(1,0,.ls 0 l.length),(0,0,qaj l)]) e tm2 hp2):Rl 1 1 44 0 44 2 ([(1,.pp 1 0),(3,.pv (iV (k:Int)))]) ([(1,0,.ls 0 l.length),(0,0,qaj l)]) e tm2 hp2:=
 RunsL.next [] 300 [.t true,.r (ptV p),Rf hc,.k,Re hs]
  (Ro (Ai hlt (Ai hin (Ai (qaN hk) (Ai hc (Ai hs tI)))))) r
theorem qu7 {l:List Pt} {k:Nat} {p:Pt} (hk:l[k]?=some p) (hin:0≤(k:Int)∧(k:Int)<(l.length:Int)) (hlt:decide ((k:Int)<(l.length:Int))=true) (hc:Pure Tryz.prog 94 #[qac p.id p.a p.b] (iV (8))):Rl 1 1 44 0 44 2 ([(1,.pp 1 0),(3,.pv (iV (k:Int)))]) ([(1,0,.ls 0 l.length),(0,0,qaj l)]) (.ret) ([(2,.pv (iV 8))]) ([]):=
 RunsL.stop [] 300 [.t true,.r (ptV p),Rf hc,.k] (fun h=>by cases h)
  (Ro (Ai hlt (Ai hin (Ai (qaN hk) (Ai hc tI)))))
theorem qvl {l:List Pt} {k:Nat} (hge:decide ((k:Int)<(l.length:Int))=false):Rl 1 1 44 0 44 2 ([(1,.pp 1 0),(3,.pv (iV (k:Int)))]) ([(1,0,.ls 0 l.length),(0,0,qaj l)]) (.exit 0) ([(1,.pp 1 0)]) ([(1,0,.ls 0 l.length),(0,0,qaj l)]):=
 RunsL.stop [] 300 [.t false] (fun h=>by cases h)
  (Ro (Ai hge tI))
theorem qjw {l:List Pt} {k:Nat} {p q:Pt} (hq:l[k]?=some q) (hk:l[k+1]?=some p) (hi0:0≤(k:Int)∧(k:Int)<(l.length:Int)) (hi1:0≤((k+1:Nat):Int)∧((k+1:Nat):Int)<(l.length:Int)) (hlt:decide (((k+1:Nat):Int)<(l.length:Int))=true) (hm:iV (IntKind.i64.wrap (((k+1:Nat):Int)-1))=iV (k:Int)) (hg:decide (q.id≥p.id)=false) (hs:iV (IntKind.i64.wrap (((k+1:Nat):Int)+1))=iV (((k+1+1:Nat):Int))) {e:Exit} {tm2:TmL} {hp2:HpL}
 (r:Rl 1 1 44 1 44 2 ([(1,.pp 1 0),(4,.pv (iV ((k+1+1:Nat):Int)))]) ([(1,0,.ls 0 l.length),(0,0,qaj l)]) e tm2 hp2):Rl 1 1 44 1 44 2 ([(1,.pp 1 0),(4,.pv (iV ((k+1:Nat):Int)))]) ([(1,0,.ls 0 l.length),(0,0,qaj l)]) e tm2 hp2:=
 RunsL.next [] 300 [.t true,.r (iV (k:Int)),.r (iV q.id),.r (iV p.id),.t false,.r (iV (((k+1+1:Nat):Int)))]
  (Ro (Ai hlt (Ai hm (Ai hi0 (Ai (qcO hq) (Ai hi1 (Ai (qcO hk) (Ai hg (Ai hs tI))))))))) r
theorem quX {l:List Pt} {k:Nat} {p q:Pt} (hq:l[k]?=some q) (hk:l[k+1]?=some p) (hi0:0≤(k:Int)∧(k:Int)<(l.length:Int)) (hi1:0≤((k+1:Nat):Int)∧((k+1:Nat):Int)<(l.length:Int)) (hlt:decide (((k+1:Nat):Int)<(l.length:Int))=true) (hm:iV (IntKind.i64.wrap (((k+1:Nat):Int)-1))=iV (k:Int)) (hg:decide (q.id≥p.id)=true):Rl 1 1 44 1 44 2 ([(1,.pp 1 0),(4,.pv (iV ((k+1:Nat):Int)))]) ([(1,0,.ls 0 l.length),(0,0,qaj l)]) (.ret) ([(2,.pv (iV 32))]) ([]):=
 RunsL.stop [] 300 [.t true,.r (iV (k:Int)),.r (iV q.id),.r (iV p.id),.t true] (fun h=>by cases h)
  (Ro (Ai hlt (Ai hm (Ai hi0 (Ai (qcO hq) (Ai hi1 (Ai (qcO hk) (Ai hg tI))))))))
theorem qnT {l:List Pt} {k:Nat} (hge:decide (((k:Nat):Int)<(l.length:Int))=false):Rl 1 1 44 1 44 2 ([(1,.pp 1 0),(4,.pv (iV ((k:Nat):Int)))]) ([(1,0,.ls 0 l.length),(0,0,qaj l)]) (.exit 2) ([]) ([]):=
 RunsL.stop [] 300 [.t false] (fun h=>by cases h)
  (Ro (Ai hge tI))
theorem qtk {l:List Pt} (h64:decide ((l.length:Int)>64)=true) :
 Fn 44 1 [qaE 0 l] [(0,0,qaj l)] (.pv (iV 4)) 0 []:=
 Fz [] [.t true]
  tI (Ai h64 tI)
theorem qxx {l:List Pt} (h64:decide ((l.length:Int)>64)=false) (r0:Rl 1 1 44 0 44 2 ([(1,.pp 1 0),(3,.pv (iV (((0:Nat):Int):Int)))]) ([(1,0,.ls 0 l.length),(0,0,qaj l)]) (.ret) ([(2,.pv (iV 8))]) ([])) :
 Fn 44 1 [qaE 0 l] [(0,0,qaj l)] (.pv (iV 8)) 0 []:=
 Fz [] [.t false,Lf r0]
  tI (Ai h64 (Lo r0 [] tI))
abbrev qE1 (l:List Pt):Prop:=Rl 1 1 44 0 44 2 ([(1,.pp 1 0),(3,.pv (iV (((0:Nat):Int):Int)))]) ([(1,0,.ls 0 l.length),(0,0,qaj l)]) (.exit 0) ([(1,.pp 1 0)]) ([(1,0,.ls 0 l.length),(0,0,qaj l)])
theorem qA9 {l:List Pt} (h64:decide ((l.length:Int)>64)=false) (r0:qE1 l) (r1:Rl 1 1 44 1 44 2 ([(1,.pp 1 0),(4,.pv (iV (((0+1:Nat):Int):Int)))]) ([(1,0,.ls 0 l.length),(0,0,qaj l)]) (.ret) ([(2,.pv (iV 32))]) ([])) :
 Fn 44 1 [qaE 0 l] [(0,0,qaj l)] (.pv (iV 32)) 0 []:=
 Fz [] [.t false,Lf r0,Lf r1]
  tI (Ai h64 (Lo r0 [] (Lo r1 [] tI)))
theorem qD1 {l:List Pt} (h64:decide ((l.length:Int)>64)=false) (r0:qE1 l) (r1:Rl 1 1 44 1 44 2 ([(1,.pp 1 0),(4,.pv (iV (((0+1:Nat):Int):Int)))]) ([(1,0,.ls 0 l.length),(0,0,qaj l)]) (.exit 2) ([]) ([])) :
 Fn 44 1 [qaE 0 l] [(0,0,qaj l)] (.pv (iV 0)) 0 []:=
 Fz [] [.t false,Lf r0,Lf r1]
  tI (Ai h64 (Lo r0 [] (Lo r1 [] tI)))
end Go.Proofs.YtkjaanhddkkodaaGreat

namespace Go.Proofs.YtkjaanhddkkodaaGreat
set_option maxRecDepth 100000
open Go.RowKit
abbrev qCn (k:Nat) (l:List Pt):TmL:=[(1,.pp 1 0),(12,.ls 0 l.length),(13,.pv (iV (l.length:Int))),(14,.pv (iV (k:Int)))]
theorem qjE {l:List Pt} {k:Nat} {p:Pt} (hk:l[k]?=some p) (hin:0≤(k:Int)∧(k:Int)<(l.length:Int)) (hlt:decide ((k:Int)<(l.length:Int))=true) (hc:Pure Tryz.prog 95 #[qac p.id p.a p.b] (iV (0))) (hs:iV (IntKind.i64.wrap ((k:Int)+1))=iV (((k+1:Nat):Int))) {e:Exit} {tm2:TmL} {hp2:HpL}
 (r:Rl 1 1 48 0 45 2 ([(1,.pp 1 0),(12,.ls 0 l.length),(13,.pv (iV (l.length:Int))),(14,.pv (iV ((k+1:Nat):Int)))]) ([(1,0,.ls 0 l.length),(0,0,qaj l)]) e tm2 hp2):Rl 1 1 48 0 45 2 (qCn k l) ([(1,0,.ls 0 l.length),(0,0,qaj l)]) e tm2 hp2:=
 RunsL.next [] 300 [.t true,.r (ptV p),Rf hc,.k,Re hs]
  (Ro (Ai hlt (Ai hin (Ai (qaN hk) (Ai hc (Ai hs tI)))))) r
theorem qvz {l:List Pt} {k:Nat} {p:Pt} (hk:l[k]?=some p) (hin:0≤(k:Int)∧(k:Int)<(l.length:Int)) (hlt:decide ((k:Int)<(l.length:Int))=true) (hc:Pure Tryz.prog 95 #[qac p.id p.a p.b] (iV (8))):Rl 1 1 48 0 45 2 (qCn k l) ([(1,0,.ls 0 l.length),(0,0,qaj l)]) (.ret) ([(2,.pv (iV 8))]) ([]):=
 RunsL.stop [] 300 [.t true,.r (ptV p),Rf hc,.k] (fun h=>by cases h)
  (Ro (Ai hlt (Ai hin (Ai (qaN hk) (Ai hc tI)))))
theorem qsx {l:List Pt} {k:Nat} (hge:decide ((k:Int)<(l.length:Int))=false):Rl 1 1 48 0 45 2 (qCn k l) ([(1,0,.ls 0 l.length),(0,0,qaj l)]) (.exit 0) ([(1,.pp 1 0)]) ([(1,0,.ls 0 l.length),(0,0,qaj l)]):=
 RunsL.stop [] 300 [.t false] (fun h=>by cases h)
  (Ro (Ai hge tI))
theorem qjG {l:List Pt} {k:Nat} {p q:Pt} (hq:l[k]?=some q) (hk:l[k+1]?=some p) (hi0:0≤(k:Int)∧(k:Int)<(l.length:Int)) (hi1:0≤((k+1:Nat):Int)∧((k+1:Nat):Int)<(l.length:Int)) (hlt:decide (((k+1:Nat):Int)<(l.length:Int))=true) (hm:iV (IntKind.i64.wrap (((k+1:Nat):Int)-1))=iV (k:Int)) (hg:decide (q.id≥p.id)=false) (hs:iV (IntKind.i64.wrap (((k+1:Nat):Int)+1))=iV (((k+1+1:Nat):Int))) {e:Exit} {tm2:TmL} {hp2:HpL}
 (r:Rl 1 1 48 1 45 2 ([(1,.pp 1 0),(6,.pv (iV ((k+1+1:Nat):Int)))]) ([(1,0,.ls 0 l.length),(0,0,qaj l)]) e tm2 hp2):Rl 1 1 48 1 45 2 ([(1,.pp 1 0),(6,.pv (iV ((k+1:Nat):Int)))]) ([(1,0,.ls 0 l.length),(0,0,qaj l)]) e tm2 hp2:=
 RunsL.next [] 300 [.t true,.r (iV (k:Int)),.r (iV q.id),.r (iV p.id),.t false,.r (iV (((k+1+1:Nat):Int)))]
  (Ro (Ai hlt (Ai hm (Ai hi0 (Ai (qcO hq) (Ai hi1 (Ai (qcO hk) (Ai hg (Ai hs tI))))))))) r
theorem qvq {l:List Pt} {k:Nat} {p q:Pt} (hq:l[k]?=some q) (hk:l[k+1]?=some p) (hi0:0≤(k:Int)∧(k:Int)<(l.length:Int)) (hi1:0≤((k+1:Nat):Int)∧((k+1:Nat):Int)<(l.length:Int)) (hlt:decide (((k+1:Nat):Int)<(l.length:Int))=true) (hm:iV (IntKind.i64.wrap (((k+1:Nat):Int)-1))=iV (k:Int)) (hg:decide (q.id≥p.id)=true):Rl 1 1 48 1 45 2 ([(1,.pp 1 0),(6,.pv (iV ((k+1:Nat):Int)))]) ([(1,0,.ls 0 l.length),(0,0,qaj l)]) (.ret) ([(2,.pv (iV 32))]) ([]):=
 RunsL.stop [] 300 [.t true,.r (iV (k:Int)),.r (iV q.id),.r (iV p.id),.t true] (fun h=>by cases h)
  (Ro (Ai hlt (Ai hm (Ai hi0 (Ai (qcO hq) (Ai hi1 (Ai (qcO hk) (Ai hg tI))))))))
theorem qmI {l:List Pt} {k:Nat} (hge:decide ((k:Int)<(l.length:Int))=false):Rl 1 1 48 1 45 2 ([(1,.pp 1 0),(6,.pv (iV ((k:Nat):Int)))]) ([(1,0,.ls 0 l.length),(0,0,qaj l)]) (.exit 2) ([]) ([]):=
 RunsL.stop [] 300 [.t false] (fun h=>by cases h)
  (Ro (Ai hge tI))
theorem qtl {l:List Pt} (h64:decide ((l.length:Int)>64)=true) :
 Fn 48 1 [qaE 0 l] [(0,0,qaj l)] (.pv (iV (4))) 0 []:=
 Fz [] [.t true]
  tI (Ai h64 tI)
theorem qw9 {l:List Pt} (h64:decide ((l.length:Int)>64)=false) (r0:Rl 1 1 48 0 45 2 ([(1,.pp 1 0),(12,.ls 0 l.length),(13,.pv (iV (l.length:Int))),(14,.pv (iV ((0:Nat):Int)))]) ([(1,0,.ls 0 l.length),(0,0,qaj l)]) (.ret) ([(2,.pv (iV 8))]) ([])) :
 Fn 48 1 [qaE 0 l] [(0,0,qaj l)] (.pv (iV (8))) 0 []:=
 Fz [] [.t false,Lf r0]
  tI (Ai h64 (Lo r0 [] tI))
abbrev qE2 (l:List Pt):Prop:=Rl 1 1 48 0 45 2 ([(1,.pp 1 0),(12,.ls 0 l.length),(13,.pv (iV (l.length:Int))),(14,.pv (iV ((0:Nat):Int)))]) ([(1,0,.ls 0 l.length),(0,0,qaj l)]) (.exit 0) ([(1,.pp 1 0)]) ([(1,0,.ls 0 l.length),(0,0,qaj l)])
theorem qyi {l:List Pt} (h64:decide ((l.length:Int)>64)=false) (r0:qE2 l) (r1:Rl 1 1 48 1 45 2 ([(1,.pp 1 0),(6,.pv (iV ((0+1:Nat):Int)))]) ([(1,0,.ls 0 l.length),(0,0,qaj l)]) (.ret) ([(2,.pv (iV 32))]) ([])) :
 Fn 48 1 [qaE 0 l] [(0,0,qaj l)] (.pv (iV (32))) 0 []:=
 Fz [] [.t false,Lf r0,Lf r1]
  tI (Ai h64 (Lo r0 [] (Lo r1 [] tI)))
theorem qB2 {l:List Pt} (h64:decide ((l.length:Int)>64)=false) (r0:qE2 l) (r1:Rl 1 1 48 1 45 2 ([(1,.pp 1 0),(6,.pv (iV ((0+1:Nat):Int)))]) ([(1,0,.ls 0 l.length),(0,0,qaj l)]) (.exit 2) ([]) ([])) :
 Fn 48 1 [qaE 0 l] [(0,0,qaj l)] (.pv (iV (0))) 0 []:=
 Fz [] [.t false,Lf r0,Lf r1]
  tI (Ai h64 (Lo r0 [] (Lo r1 [] tI)))
end Go.Proofs.YtkjaanhddkkodaaGreat
