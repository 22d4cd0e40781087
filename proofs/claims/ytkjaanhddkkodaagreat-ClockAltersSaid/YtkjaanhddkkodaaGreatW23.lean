/-
  Joined: Cu, Cv, Fa, Fi, Fe, Fd, Fb, Fc. Conditions: none.
-/
import Derived.Test.YtkjaanhddkkodaaGreatW19
import Derived.Test.YtkjaanhddkkodaaGreatW22
import Derived.Test.YtkjaanhddkkodaaGreatW18
namespace Go.Proofs.YtkjaanhddkkodaaGreat
set_option maxRecDepth 100000
open Go.RowKit
abbrev qzM (g:Int) (za:Int) (zb:Int):Prop:=Pure Tryz.prog 127 #[.int .u64 za,.int .u64 zb] (.int .u64 g)
abbrev qz1 (a:Int) (za:Int):Prop:=Pure Tryz.prog 128 #[iV a] (.int .u64 za)
abbrev qzb (b:Int) (zb:Int):Prop:=Pure Tryz.prog 128 #[iV b] (.int .u64 zb)
abbrev quj (D:Int) (E:Int) (N:Int) (x:Int) (y:Int):Prop:=Pure Tryz.prog 218 #[.bool false,qax false 0 x,qax false 0 y] (.tuple #[qaa N D,iV E])
theorem qnK {a b za zb g x y N D E:Int} (b0:(b==0)=false) (z1:qz1 a za) (z2:qzb b zb) (g1:qzM g za zb) (t1:decide (a<0)=true) (t2:decide (b<0)=true) (gz:¬ (g:Int)=0) (q1:Value.int .u64 (IntKind.u64.wrap (za.tdiv g))=.int .u64 x) (q2:Value.int .u64 (IntKind.u64.wrap (zb.tdiv g))=.int .u64 y) (m1:quj D E N x y) :
 Pure Tryz.prog 183 #[iV a,iV b] (.tuple #[qaa N D,iV E]):=
 qad (args:=[iV a,iV b]) 400 [.t false,Rf z1,Rf z2,Rf g1,.t true,.t true,.k,Rf z1,Re q1,Rf z2,Re q2,Rf m1]
  (Ai rfl (Ai b0 (Ai z1 (Ai z2 (Ai g1 (Ai t1 (Ai t2 (Ai z1 (Ai gz (Ai q1 (Ai z2 (Ai gz (Ai q2 (Ai m1 tI)))))))))))))) (by kernel_rfl)
theorem qnU {a b za zb g x y N D E:Int} (b0:(b==0)=false) (z1:qz1 a za) (z2:qzb b zb) (g1:qzM g za zb) (t1:decide (a<0)=true) (t2:decide (b<0)=false) (t3:(a !=0)=true) (gz:¬ (g:Int)=0) (q1:Value.int .u64 (IntKind.u64.wrap (za.tdiv g))=.int .u64 x) (q2:Value.int .u64 (IntKind.u64.wrap (zb.tdiv g))=.int .u64 y) (m1:Pure Tryz.prog 218 #[.bool true,qax false 0 x,qax false 0 y] (.tuple #[qaa N D,iV E])) :
 Pure Tryz.prog 183 #[iV a,iV b] (.tuple #[qaa N D,iV E]):=
 qad (args:=[iV a,iV b]) 400 [.t false,Rf z1,Rf z2,Rf g1,.t true,.t false,.k,.t true,Rf z1,Re q1,Rf z2,Re q2,Rf m1]
  (Ai rfl (Ai b0 (Ai z1 (Ai z2 (Ai g1 (Ai t1 (Ai t2 (Ai t3 (Ai z1 (Ai gz (Ai q1 (Ai z2 (Ai gz (Ai q2 (Ai m1 tI))))))))))))))) (by kernel_rfl)
theorem qnL {a b za zb g x y N D E:Int} (b0:(b==0)=false) (z1:qz1 a za) (z2:qzb b zb) (g1:qzM g za zb) (t1:decide (a<0)=false) (t2:decide (b<0)=true) (t3:(a !=0)=true) (gz:¬ (g:Int)=0) (q1:Value.int .u64 (IntKind.u64.wrap (za.tdiv g))=.int .u64 x) (q2:Value.int .u64 (IntKind.u64.wrap (zb.tdiv g))=.int .u64 y) (m1:Pure Tryz.prog 218 #[.bool true,qax false 0 x,qax false 0 y] (.tuple #[qaa N D,iV E])) :
 Pure Tryz.prog 183 #[iV a,iV b] (.tuple #[qaa N D,iV E]):=
 qad (args:=[iV a,iV b]) 400 [.t false,Rf z1,Rf z2,Rf g1,.t false,.t true,.k,.t true,Rf z1,Re q1,Rf z2,Re q2,Rf m1]
  (Ai rfl (Ai b0 (Ai z1 (Ai z2 (Ai g1 (Ai t1 (Ai t2 (Ai t3 (Ai z1 (Ai gz (Ai q1 (Ai z2 (Ai gz (Ai q2 (Ai m1 tI))))))))))))))) (by kernel_rfl)
theorem qnY {a b za zb g x y N D E:Int} (b0:(b==0)=false) (z1:qz1 a za) (z2:qzb b zb) (g1:qzM g za zb) (t1:decide (a<0)=false) (t2:decide (b<0)=true) (t3:(a !=0)=false) (gz:¬ (g:Int)=0) (q1:Value.int .u64 (IntKind.u64.wrap (za.tdiv g))=.int .u64 x) (q2:Value.int .u64 (IntKind.u64.wrap (zb.tdiv g))=.int .u64 y) (m1:quj D E N x y) :
 Pure Tryz.prog 183 #[iV a,iV b] (.tuple #[qaa N D,iV E]):=
 qad (args:=[iV a,iV b]) 400 [.t false,Rf z1,Rf z2,Rf g1,.t false,.t true,.k,.t false,Rf z1,Re q1,Rf z2,Re q2,Rf m1]
  (Ai rfl (Ai b0 (Ai z1 (Ai z2 (Ai g1 (Ai t1 (Ai t2 (Ai t3 (Ai z1 (Ai gz (Ai q1 (Ai z2 (Ai gz (Ai q2 (Ai m1 tI))))))))))))))) (by kernel_rfl)
theorem qnP {a b za zb g x y N D E:Int} (b0:(b==0)=false) (z1:qz1 a za) (z2:qzb b zb) (g1:qzM g za zb) (t1:decide (a<0)=false) (t2:decide (b<0)=false) (gz:¬ (g:Int)=0) (q1:Value.int .u64 (IntKind.u64.wrap (za.tdiv g))=.int .u64 x) (q2:Value.int .u64 (IntKind.u64.wrap (zb.tdiv g))=.int .u64 y) (m1:quj D E N x y) :
 Pure Tryz.prog 183 #[iV a,iV b] (.tuple #[qaa N D,iV E]):=
 qad (args:=[iV a,iV b]) 400 [.t false,Rf z1,Rf z2,Rf g1,.t false,.t false,.k,Rf z1,Re q1,Rf z2,Re q2,Rf m1]
  (Ai rfl (Ai b0 (Ai z1 (Ai z2 (Ai g1 (Ai t1 (Ai t2 (Ai z1 (Ai gz (Ai q1 (Ai z2 (Ai gz (Ai q2 (Ai m1 tI)))))))))))))) (by kernel_rfl)
theorem qpU {pi pa pb qi qa qb n d u v x y s:Int} (v1:iV (IntKind.i64.wrap (pa-qa))=iV u) (c1:Pure Tryz.prog 84 #[iV u,iV d] (qdT x)) (v2:iV (IntKind.i64.wrap (pb-qb))=iV v) (c2:Pure Tryz.prog 84 #[iV v,iV n] (qdT y)) (c3:Pure Tryz.prog 217 #[qdT x,qdT y] (qdT s)) (c4:Pure Tryz.prog 85 #[qdT s] (iV s.sign)) :
 Pure Tryz.prog 182 #[qac pi pa pb,qac qi qa qb,qaa n d] (iV s.sign):=
 qad (args:=[qac pi pa pb,qac qi qa qb,qaa n d]) 200 [Re v1,Rf c1,Re v2,Rf c2,Rf c3,Rf c4]
  (Ai rfl (Ai v1 (Ai c1 (Ai v2 (Ai c2 (Ai c3 (Ai c4 tI))))))) (by kernel_rfl)
abbrev qw5 (d:Int) (f:Int) (n:Int) (pa:Int) (pb:Int) (pi:Int) (qa:Int) (qb:Int) (qi:Int):Prop:=Pure Tryz.prog 182 #[qac pi pa pb,qac qi qa qb,qaa n d] (iV f)
theorem qiF {pi pa pb qi qa qb n d f:Int} (c:qw5 d f n pa pb pi qa qb qi) (z:(f !=0)=true) (g:decide (f>0)=true) :
 Pure Tryz.prog 134 #[qac pi pa pb,qac qi qa qb,qaa n d] (.bool true):=
 qad (args:=[qac pi pa pb,qac qi qa qb,qaa n d]) 200 [Rf c,.t true,.t true]
  (Ai rfl (Ai c (Ai z (Ai g tI)))) (by kernel_rfl)
theorem qoJ {pi pa pb qi qa qb n d f:Int} (c:qw5 d f n pa pb pi qa qb qi) (z:(f !=0)=false) (bb:(pb !=qb)=true) (g:decide (pb>qb)=true) :
 Pure Tryz.prog 134 #[qac pi pa pb,qac qi qa qb,qaa n d] (.bool true):=
 qad (args:=[qac pi pa pb,qac qi qa qb,qaa n d]) 200 [Rf c,.t false,.t true,.t true]
  (Ai rfl (Ai c (Ai z (Ai bb (Ai g tI))))) (by kernel_rfl)
theorem qn2 {pi pa pb qi qa qb n d f:Int} (c:qw5 d f n pa pb pi qa qb qi) (z:(f !=0)=false) (bb:(pb !=qb)=false) (g:decide (pi<qi)=true) :
 Pure Tryz.prog 134 #[qac pi pa pb,qac qi qa qb,qaa n d] (.bool true):=
 qad (args:=[qac pi pa pb,qac qi qa qb,qaa n d]) 200 [Rf c,.t false,.t false,.t true]
  (Ai rfl (Ai c (Ai z (Ai bb (Ai g tI))))) (by kernel_rfl)
theorem qi6 {pi pa pb qi qa qb n d f:Int} (c:qw5 d f n pa pb pi qa qb qi) (z:(f !=0)=true) (g:decide (f>0)=false) :
 Pure Tryz.prog 134 #[qac pi pa pb,qac qi qa qb,qaa n d] (.bool false):=
 qad (args:=[qac pi pa pb,qac qi qa qb,qaa n d]) 200 [Rf c,.t true,.t false]
  (Ai rfl (Ai c (Ai z (Ai g tI)))) (by kernel_rfl)
theorem qmf {pi pa pb qi qa qb n d f:Int} (c:qw5 d f n pa pb pi qa qb qi) (z:(f !=0)=false) (bb:(pb !=qb)=true) (g:decide (pb>qb)=false) :
 Pure Tryz.prog 134 #[qac pi pa pb,qac qi qa qb,qaa n d] (.bool false):=
 qad (args:=[qac pi pa pb,qac qi qa qb,qaa n d]) 200 [Rf c,.t false,.t true,.t false]
  (Ai rfl (Ai c (Ai z (Ai bb (Ai g tI))))) (by kernel_rfl)
theorem qn4 {pi pa pb qi qa qb n d f:Int} (c:qw5 d f n pa pb pi qa qb qi) (z:(f !=0)=false) (bb:(pb !=qb)=false) (g:decide (pi<qi)=false) :
 Pure Tryz.prog 134 #[qac pi pa pb,qac qi qa qb,qaa n d] (.bool false):=
 qad (args:=[qac pi pa pb,qac qi qa qb,qaa n d]) 200 [Rf c,.t false,.t false,.t false]
  (Ai rfl (Ai c (Ai z (Ai bb (Ai g tI))))) (by kernel_rfl)
theorem qqC {pi pa pb qi qa qb x y m k:Int} (v1:iV (IntKind.i64.wrap (pa-qa))=iV x) (v2:iV (IntKind.i64.wrap (qb-pb))=iV y) (c1:Pure Tryz.prog 183 #[iV x,iV y] (.tuple #[qaa m k,iV 0])) :
 Pure Tryz.prog 135 #[qac pi pa pb,qac qi qa qb] (qaa m k):=
 qad (args:=[qac pi pa pb,qac qi qa qb]) 200 [Re v1,Re v2,Rf c1]
  (Ai rfl (Ai v1 (Ai v2 (Ai c1 tI)))) (by kernel_rfl)
theorem qiI {pi pa pb qi qa qb n d:Int} (l:Pure Tryz.prog 134 #[qac qi qa qb,qac pi pa pb,qaa n d] (.bool true)) :
 Pure Tryz.prog 83 #[qac pi pa pb,qac qi qa qb,qaa n d] (.tuple #[qaa n d,.bool true]):=
 qad (args:=[qac pi pa pb,qac qi qa qb,qaa n d]) 200 [Rf l]
  (Ai rfl (Ai l tI)) (by kernel_rfl)
theorem qiu {pi pa pb qi qa qb n d m k:Int} (l:Pure Tryz.prog 134 #[qac qi qa qb,qac pi pa pb,qaa n d] (.bool false)) (g:decide (qb>pb)=true) (m1:Pure Tryz.prog 135 #[qac pi pa pb,qac qi qa qb] (qaa m k)) :
 Pure Tryz.prog 83 #[qac pi pa pb,qac qi qa qb,qaa n d] (.tuple #[qaa m k,.bool true]):=
 qad (args:=[qac pi pa pb,qac qi qa qb,qaa n d]) 200 [Rf l,.t true,Rf m1]
  (Ai rfl (Ai l (Ai g (Ai m1 tI)))) (by kernel_rfl)
theorem qf0 {pi pa pb qi qa qb n d:Int} (l:Pure Tryz.prog 134 #[qac qi qa qb,qac pi pa pb,qaa n d] (.bool false)) (g:decide (qb>pb)=false) :
 Pure Tryz.prog 83 #[qac pi pa pb,qac qi qa qb,qaa n d] (.tuple #[qaa 0 0,.bool false]):=
 qad (args:=[qac pi pa pb,qac qi qa qb,qaa n d]) 200 [Rf l,.t false]
  (Ai rfl (Ai l (Ai g tI))) (by kernel_rfl)
abbrev qsm (d:Int) (n:Int):Prop:=Pure Tryz.prog 49 #[qaa n d] (iV 0)
abbrev qsD (pa:Int) (pb:Int) (pi:Int) (qa:Int) (qb:Int) (qi:Int):Prop:=Pure Tryz.prog 142 #[qac pi pa pb,qac qi qa qb] (iV 0)
abbrev qsu (pa:Int) (pb:Int) (pi:Int):Prop:=Pure Tryz.prog 95 #[qac pi pa pb] (iV 0)
abbrev qr3 (qa:Int) (qb:Int) (qi:Int):Prop:=Pure Tryz.prog 95 #[qac qi qa qb] (iV 0)
theorem qq3 {pi pa pb qi qa qb n d:Int} (cp:qsu pa pb pi) (cq:qr3 qa qb qi) (ct:qsm d n) (ci:qsD pa pb pi qa qb qi) (w:(qa==pa&&(qb==pb&&true))=true) (r:decide (qi<pi)=true) :
 Pure Tryz.prog 154 #[qac pi pa pb,qac qi qa qb,qaa n d] (.tuple #[qaa n d,.bool true,iV 0]):=
 qad (args:=[qac pi pa pb,qac qi qa qb,qaa n d]) 400 [Rf cp,Rf cp,Rf cp,Rf cp,.k,.k,.k,.k,.k,.k,.k,.k,.k,.k,.k,.k,.k,.k,.k,.k,.k,.k,.t true,.k,.t true]
  (Ai rfl (Ai cp (Ai cq (Ai ct (Ai ci (Ai w (Ai r tI))))))) (by kernel_rfl)
theorem qrx {pi pa pb qi qa qb n d:Int} (cp:qsu pa pb pi) (cq:qr3 qa qb qi) (ct:qsm d n) (ci:qsD pa pb pi qa qb qi) (w:(qa==pa&&(qb==pb&&true))=true) (r:decide (qi<pi)=false) (gb:decide (qb>pb)=false) :
 Pure Tryz.prog 154 #[qac pi pa pb,qac qi qa qb,qaa n d] (.tuple #[qaa 0 0,.bool false,iV 0]):=
 qad (args:=[qac pi pa pb,qac qi qa qb,qaa n d]) 400 [Rf cp,Rf cp,Rf cp,Rf cp,.k,.k,.k,.k,.k,.k,.k,.k,.k,.k,.k,.k,.k,.k,.k,.k,.k,.k,.t true,.k,.t false,.t false]
  (Ai rfl (Ai cp (Ai cq (Ai ct (Ai ci (Ai w (Ai r (Ai gb tI)))))))) (by kernel_rfl)
theorem qps {pi pa pb qi qa qb n d:Int} (cp:qsu pa pb pi) (cq:qr3 qa qb qi) (ct:qsm d n) (ci:qsD pa pb pi qa qb qi) (w:(qa==pa&&(qb==pb&&true))=false) (bb:(qb==pb)=true) (r:decide (qa>pa)=true) :
 Pure Tryz.prog 154 #[qac pi pa pb,qac qi qa qb,qaa n d] (.tuple #[qaa n d,.bool true,iV 0]):=
 qad (args:=[qac pi pa pb,qac qi qa qb,qaa n d]) 400 [Rf cp,Rf cp,Rf cp,Rf cp,.k,.k,.k,.k,.k,.k,.k,.k,.k,.k,.k,.k,.k,.k,.k,.k,.k,.k,.t false,.t true,.k,.t true]
  (Ai rfl (Ai cp (Ai cq (Ai ct (Ai ci (Ai w (Ai bb (Ai r tI)))))))) (by kernel_rfl)
theorem qpG {pi pa pb qi qa qb n d:Int} (cp:qsu pa pb pi) (cq:qr3 qa qb qi) (ct:qsm d n) (ci:qsD pa pb pi qa qb qi) (w:(qa==pa&&(qb==pb&&true))=false) (bb:(qb==pb)=true) (r:decide (qa>pa)=false) (gb:decide (qb>pb)=false) :
 Pure Tryz.prog 154 #[qac pi pa pb,qac qi qa qb,qaa n d] (.tuple #[qaa 0 0,.bool false,iV 0]):=
 qad (args:=[qac pi pa pb,qac qi qa qb,qaa n d]) 400 [Rf cp,Rf cp,Rf cp,Rf cp,.k,.k,.k,.k,.k,.k,.k,.k,.k,.k,.k,.k,.k,.k,.k,.k,.k,.k,.t false,.t true,.k,.t false,.t false]
  (Ai rfl (Ai cp (Ai cq (Ai ct (Ai ci (Ai w (Ai bb (Ai r (Ai gb tI))))))))) (by kernel_rfl)
abbrev qB2 (c:Int) (d:Int) (md:Int) (mn:Int) (n:Int):Prop:=Pure Tryz.prog 116 #[qaa n d,qaa mn md] (.tuple #[iV c,iV 0])
theorem qoP {pi pa pb qi qa qb n d mn md c:Int} (cp:qsu pa pb pi) (cq:qr3 qa qb qi) (ct:qsm d n) (ci:qsD pa pb pi qa qb qi) (w:(qa==pa&&(qb==pb&&true))=false) (bb:(qb==pb)=false) (cm:Pure Tryz.prog 188 #[qac qi qa qb,qac pi pa pb] (qaa mn md)) (cc:qB2 c d md mn n) (g1:decide (c≥0)=true) (gb:decide (qb>pb)=true) :
 Pure Tryz.prog 154 #[qac pi pa pb,qac qi qa qb,qaa n d] (.tuple #[qaa n d,.bool true,iV 0]):=
 qad (args:=[qac pi pa pb,qac qi qa qb,qaa n d]) 400 [Rf cp,Rf cp,Rf cp,Rf cp,.k,.k,.k,.k,.k,.k,.k,.k,.k,.k,.k,.k,.k,.k,.k,.k,.k,.k,.t false,.t false,Rf cm,.k,Rf cc,.t true,.t true,.k]
  (Ai rfl (Ai cp (Ai cq (Ai ct (Ai ci (Ai w (Ai bb (Ai cm (Ai cc (Ai g1 (Ai gb tI))))))))))) (by kernel_rfl)
theorem qnv {pi pa pb qi qa qb n d mn md c:Int} (cp:qsu pa pb pi) (cq:qr3 qa qb qi) (ct:qsm d n) (ci:qsD pa pb pi qa qb qi) (w:(qa==pa&&(qb==pb&&true))=false) (bb:(qb==pb)=false) (cm:Pure Tryz.prog 188 #[qac qi qa qb,qac pi pa pb] (qaa mn md)) (cc:qB2 c d md mn n) (g1:decide (c≥0)=true) (gb:decide (qb>pb)=false) :
 Pure Tryz.prog 154 #[qac pi pa pb,qac qi qa qb,qaa n d] (.tuple #[qaa 0 0,.bool false,iV 0]):=
 qad (args:=[qac pi pa pb,qac qi qa qb,qaa n d]) 400 [Rf cp,Rf cp,Rf cp,Rf cp,.k,.k,.k,.k,.k,.k,.k,.k,.k,.k,.k,.k,.k,.k,.k,.k,.k,.k,.t false,.t false,Rf cm,.k,Rf cc,.t true,.t false,.k,.t false]
  (Ai rfl (Ai cp (Ai cq (Ai ct (Ai ci (Ai w (Ai bb (Ai cm (Ai cc (Ai g1 (Ai gb (Ai gb tI)))))))))))) (by kernel_rfl)
theorem qog {pi pa pb qi qa qb n d mn md c m k:Int} (cp:qsu pa pb pi) (cq:qr3 qa qb qi) (ct:qsm d n) (ci:qsD pa pb pi qa qb qi) (w:(qa==pa&&(qb==pb&&true))=false) (bb:(qb==pb)=false) (cm:Pure Tryz.prog 188 #[qac qi qa qb,qac pi pa pb] (qaa mn md)) (cc:qB2 c d md mn n) (g1:decide (c≥0)=false) (gb:decide (qb>pb)=true) (mt:Pure Tryz.prog 188 #[qac pi pa pb,qac qi qa qb] (qaa m k)) :
 Pure Tryz.prog 154 #[qac pi pa pb,qac qi qa qb,qaa n d] (.tuple #[qaa m k,.bool true,iV 0]):=
 qad (args:=[qac pi pa pb,qac qi qa qb,qaa n d]) 400 [Rf cp,Rf cp,Rf cp,Rf cp,.k,.k,.k,.k,.k,.k,.k,.k,.k,.k,.k,.k,.k,.k,.k,.k,.k,.k,.t false,.t false,Rf cm,.k,Rf cc,.t false,.t true,.k,.t true,Rf mt]
  (Ai rfl (Ai cp (Ai cq (Ai ct (Ai ci (Ai w (Ai bb (Ai cm (Ai cc (Ai g1 (Ai gb (Ai gb (Ai mt tI))))))))))))) (by kernel_rfl)
theorem qn0 {pi pa pb qi qa qb n d mn md c:Int} (cp:qsu pa pb pi) (cq:qr3 qa qb qi) (ct:qsm d n) (ci:qsD pa pb pi qa qb qi) (w:(qa==pa&&(qb==pb&&true))=false) (bb:(qb==pb)=false) (cm:Pure Tryz.prog 188 #[qac qi qa qb,qac pi pa pb] (qaa mn md)) (cc:qB2 c d md mn n) (g1:decide (c≥0)=false) (gb:decide (qb>pb)=false) :
 Pure Tryz.prog 154 #[qac pi pa pb,qac qi qa qb,qaa n d] (.tuple #[qaa n d,.bool true,iV 0]):=
 qad (args:=[qac pi pa pb,qac qi qa qb,qaa n d]) 400 [Rf cp,Rf cp,Rf cp,Rf cp,.k,.k,.k,.k,.k,.k,.k,.k,.k,.k,.k,.k,.k,.k,.k,.k,.k,.k,.t false,.t false,Rf cm,.k,Rf cc,.t false,.t false,.k]
  (Ai rfl (Ai cp (Ai cq (Ai ct (Ai ci (Ai w (Ai bb (Ai cm (Ai cc (Ai g1 (Ai gb tI))))))))))) (by kernel_rfl)
end Go.Proofs.YtkjaanhddkkodaaGreat

namespace Go.Proofs.YtkjaanhddkkodaaGreat
set_option maxRecDepth 100000
open Go.RowKit
theorem qkj {x:Nat} (h:x<18446744073709551616):qih false x=qax false 0 (x:Int):=by
 unfold qih
 rw[show x/18446744073709551616=0 by omega,show x%18446744073709551616=x by omega]
 rfl
theorem qol {a b:Int} (ha:I64 a) (hb:I64 b) (h0:b≠0):∃ N D E,IsRes a b N D E∧Pure Tryz.prog 183 #[.int .i64 a,.int .i64 b] (.tuple #[qaa N D,.int .i64 E]):=by
 have za:=qdA a ha
 have zb:=qdA b hb
 unfold I64 at ha hb
 obtain⟨g,hg⟩:∃ g,g=Nat.gcd a.natAbs b.natAbs:=⟨_,rfl⟩
 have g0:0<g:=hg▸Nat.gcd_pos_of_pos_right _ (by omega)
 have gg:=qiV a.natAbs b.natAbs g (by omega) (by omega) hg
 obtain⟨x,hx⟩:∃ x,x=a.natAbs/g:=⟨_,rfl⟩
 obtain⟨y,hy⟩:∃ y,y=b.natAbs/g:=⟨_,rfl⟩
 have ax:a.natAbs=g*x:=by rw[hx,hg];exact (Nat.mul_div_cancel' (Nat.gcd_dvd_left _ _)).symm
 have bY:b.natAbs=g*y:=by rw[hy,hg];exact (Nat.mul_div_cancel' (Nat.gcd_dvd_right _ _)).symm
 have hxy:Nat.gcd x y=1:=by rw[hx,hy,hg];exact Nat.gcd_div_gcd_div_gcd_of_pos_right (by omega)
 have y0:0<y:=by
  rcases Nat.eq_zero_or_pos y with e | e
  ·rw[e,Nat.mul_zero] at bY;omega
  ·exact e
 have lx:=Nat.div_le_self a.natAbs g
 have ly:=Nat.div_le_self b.natAbs g
 rw[← hx] at lx
 rw[← hy] at ly
 have q1:=qE0 (x:=a.natAbs) (y:=g) (by omega)
 have q2:=qE0 (x:=b.natAbs) (y:=g) (by omega)
 rw[← hx] at q1
 rw[← hy] at q2
 have md:∀ neg,Pure Tryz.prog 218 #[.bool neg,qax false 0 (x:Int),qax false 0 (y:Int)] (.tuple #[qaa (qeg (qbl x&&qbl y) (sgV x neg)) (qeg (qbl x&&qbl y) (y:Int)),.int .i64 (qoA (qbl x&&qbl y))]):=by
  intro neg
  have:=qnm neg false false x y
  rwa [qkj (by omega),qkj (by omega)] at this
 have fin:∀ (T:Int) (neg:Bool),T.natAbs=x→decide (T<0)=neg→T*b=a*(y:Int)→IsRes a b (qeg (qbl x&&qbl y) (sgV x neg)) (qeg (qbl x&&qbl y) (y:Int)) (qoA (qbl x&&qbl y)):=by
  intro T neg h1 h2 h3
  have:=qjG (p:=a) (q:=b) (T:=T) (U:=(y:Int)) h0 (by omega) (by rw[h1,Int.natAbs_natCast];exact hxy) h3
  rw[h1,h2,Int.natAbs_natCast,df (show ¬ (y:Int)<0 by omega),qvl (fun h=>by simp only[Bool.and_eq_true] at h;simpa [qbl] using h.2)] at this
  exact this
 have gz:¬ (g:Int)=0:=by omega
 have cx:(x:Int)*((g*y:Nat):Int)=((g*x:Nat):Int)*(y:Int):=by rw[← Int.natCast_mul,← Int.natCast_mul];congr 1;rw[Nat.mul_left_comm,Nat.mul_assoc]
 by_cases sa:a<0<;>by_cases sb:b<0
 ·refine⟨_,_,_,fin (x:Int) false (by simp) (df (by omega)) ?_,qnK (by simp[h0]) za zb gg (dt sa) (dt sb) gz q1 q2 (md false)⟩
  rw[show b = -((g*y:Nat):Int) by omega,show a = -((g*x:Nat):Int) by omega,Int.mul_neg,Int.neg_mul,cx]
 ·refine⟨_,_,_,fin (-(x:Int)) true (by simp) (dt ?_) ?_,qnU (by simp[h0]) za zb gg (dt sa) (df sb) (by simp;omega) gz q1 q2 (md true)⟩
  ·rcases Nat.eq_zero_or_pos x with e | e
   ·rw[e,Nat.mul_zero] at ax;omega
   ·omega
  ·rw[show b=((g*y:Nat):Int) by omega,show a = -((g*x:Nat):Int) by omega,Int.neg_mul,Int.neg_mul,cx]
 ·by_cases z:a=0
  ·refine⟨_,_,_,fin 0 false ?_ rfl (by rw[z];simp),qnY (by simp[h0]) za zb gg (df sa) (dt sb) (by simp[z]) gz q1 q2 (md false)⟩
   rw[hx,z];simp
  ·refine⟨_,_,_,fin (-(x:Int)) true (by simp) (dt ?_) ?_,qnL (by simp[h0]) za zb gg (df sa) (dt sb) (by simp[z]) gz q1 q2 (md true)⟩
   ·rcases Nat.eq_zero_or_pos x with e | e
    ·rw[e,Nat.mul_zero] at ax;omega
    ·omega
   ·rw[show b = -((g*y:Nat):Int) by omega,show a=((g*x:Nat):Int) by omega,Int.neg_mul_neg,cx]
 ·refine⟨_,_,_,fin (x:Int) false (by simp) (df (by omega)) ?_,qnP (by simp[h0]) za zb gg (df sa) (df sb) gz q1 q2 (md false)⟩
  rw[show b=((g*y:Nat):Int) by omega,show a=((g*x:Nat):Int) by omega,cx]
theorem qAw {pi pa pb qi qa qb m k:Int} (hp:okP pi pa pb=true) (hq:okP qi qa qb=true) (hb:pb≠qb) (h1:okB m k=true) (h2:I64 m) (h3:I64 k) (h4:m*(pb-qb)=(qa-pa)*k) :
 Pure Tryz.prog 135 #[qac pi pa pb,qac qi qa qb] (qaa m k):=by
 have hp':=qcf.1 hp
 have hq':=qcf.1 hq
 obtain⟨N,D,E,hr,hm⟩:=qol (a:=pa-qa) (b:=qb-pb) (by unfold I64;omega) (by unfold I64;omega) (by omega)
 obtain⟨rfl,rfl,rfl⟩:=hr.one (by omega) h1 h2 h3 (by
  rw[show qb-pb = -(pb-qb) by omega,show pa-qa = -(qa-pa) by omega,Int.mul_neg,Int.neg_mul,h4])
 exact qqC (by rw[qai (by omega) (by omega)]) (by rw[qai (by omega) (by omega)]) hm
theorem qq1 {pi pa pb qi qa qb n d:Int} (hn:I64 n) (hd:I64 d) (hp:okP pi pa pb=true) (hq:okP qi qa qb=true) :
 Pure Tryz.prog 134 #[qac pi pa pb,qac qi qa qb,qaa n d] (.bool (qbg (pa*d+pb*n) (qa*d+qb*n) pb qb pi qi)):=by
 have hp':=qcf.1 hp
 have hq':=qcf.1 hq
 have c1:=qca (pa-qa) d (by unfold I64;omega) hd
 have c2:=qca (pb-qb) n (by unfold I64;omega) hn
 have b1:((pa-qa)*d).natAbs≤2097152*9223372036854775808:=by rw[Int.natAbs_mul];unfold I64 at hd;exact Nat.mul_le_mul (by omega) (by omega)
 have b2:((pb-qb)*n).natAbs≤2097152*9223372036854775808:=by rw[Int.natAbs_mul];unfold I64 at hn;exact Nat.mul_le_mul (by omega) (by omega)
 have c3:=qmY ((pa-qa)*d) ((pb-qb)*n) (by omega) (by omega)
 have e:(pa-qa)*d+(pb-qb)*n=pa*d+pb*n-(qa*d+qb*n):=by rw[Int.sub_mul,Int.sub_mul];omega
 rw[e] at c3
 have c4:=qeP (pa*d+pb*n-(qa*d+qb*n))
 have far:=qpU (pi:=pi) (pa:=pa) (pb:=pb) (qi:=qi) (qa:=qa) (qb:=qb) (by rw[qai (by omega) (by omega)]) c1 (by rw[qai (by omega) (by omega)]) c2 c3 c4
 generalize pa*d+pb*n=P at *
 generalize qa*d+qb*n=Q at *
 rcases Int.lt_trichotomy (P-Q) 0 with h | h | h
 ·rw[Int.sign_eq_neg_one_of_neg h] at far
  rw[qcP (by omega)]
  exact qi6 far (by decide) (by decide)
 ·rw[h] at far
  by_cases hb:pb=qb
  ·by_cases hi:pi<qi
   ·rw[qds (by omega)];exact qn2 far (by decide) (by simp[hb]) (dt hi)
   ·rw[qcP (by omega)];exact qn4 far (by decide) (by simp[hb]) (df hi)
  ·by_cases hg:pb>qb
   ·rw[qds (by omega)];exact qoJ far (by decide) (by simp[hb]) (dt hg)
   ·rw[qcP (by omega)];exact qmf far (by decide) (by simp[hb]) (df hg)
 ·rw[Int.sign_eq_one_of_pos h] at far
  rw[qds (by omega)]
  exact qiF far (by decide) (by decide)
end Go.Proofs.YtkjaanhddkkodaaGreat

namespace Go.Proofs.YtkjaanhddkkodaaGreat
set_option maxRecDepth 100000
open Go.RowKit
structure Pt where
 id:Int
 a:Int
 b:Int
abbrev ptV (p:Pt):Value:=qac p.id p.a p.b
def qbm:List Pt→List Value
 | []=>[]
 | p::r=>iV p.id::iV p.a::iV p.b::qbm r
theorem qbU:∀ (a b:List Pt),qbm (a++b)=qbm a++qbm b
 | [],_=>rfl
 | p::r,b=>by simp[qbm,qbU r b]
theorem qba:∀ (l:List Pt),(qbm l).length=l.length*3
 | []=>rfl
 | p::r=>by simp[qbm,qba r];omega
theorem qcv:∀ {l:List Pt} {k:Nat} {p:Pt},l[k]?=some p→(qbm l)[k*3]?=some (iV p.id)∧(qbm l)[k*3+1]?=some (iV p.a)∧(qbm l)[k*3+2]?=some (iV p.b)
 | [],k,p,h=>by simp at h
 | q::r,0,p,h=>by simp at h;subst h;exact⟨rfl,rfl,rfl⟩
 | q::r,k+1,p,h=>by
  have:=qcv (l:=r) (k:=k) (p:=p) (by simpa using h)
  rw[show (k+1)*3=k*3+1+1+1 by omega]
  exact this
theorem qaO {l:List Pt} {k:Nat} {p:Pt} (h:l[k]?=some p):qcQ (qbm l) (0*3+k*3) [iV p.id,iV p.a,iV p.b]:=by
 obtain⟨h1,h2,h3⟩:=qcv h
 intro j v hj
 rw[show 0*3+k*3+j=k*3+j by omega]
 match j,hj with
 | 0,hj=>cases hj;exact h1
 | 1,hj=>cases hj;exact h2
 | 2,hj=>cases hj;exact h3
 | j+3,hj=>simp at hj
theorem qcK {l:List Pt} {k:Nat} {p:Pt} (h:l[k]?=some p):qcQ (qbm l) (0*3+k*3) [iV p.id]:=by
 intro j v hj
 rw[show 0*3+k*3+j=k*3+j by omega]
 match j,hj with
 | 0,hj=>cases hj;exact (qcv h).1
 | j+1,hj=>simp at hj
theorem RunsL.rounds {P:Program} {lo fr:Nat} {c:Code} {n nb:Nat} (tm:Nat→List (Nat×SV)) (hp:Nat→List (Nat×Nat×SV)) {e:Exit} {tm2:TmL} {hp2:HpL} {N:Nat} :
 ∀ (d i:Nat),i+d=N→(∀ j,i≤j→j<N→RunsL P lo fr c n nb (tm (j+1)) (hp (j+1)) e tm2 hp2→RunsL P lo fr c n nb (tm j) (hp j) e tm2 hp2)→RunsL P lo fr c n nb (tm N) (hp N) e tm2 hp2→RunsL P lo fr c n nb (tm i) (hp i) e tm2 hp2
 | 0,i,h,_,last=>by
  have:i=N:=by omega
  subst this;exact last
 | d+1,i,h,step,last=>step i (Nat.le_refl i) (by omega) (RunsL.rounds tm hp d (i+1) (by omega) (fun j h1 h2=>step j (by omega) h2) last)
abbrev qal (l:List Pt):SV:=.row 57 3 l.length (qbm l)
abbrev qaB (b:Nat) (l:List Pt):SV:=.ag [.ls b l.length]
theorem qau {k:Nat} (h:k≤1000000):iV (IntKind.i64.wrap ((k:Int)+1))=iV ((k+1:Nat):Int):=by rw[qai (by omega) (by omega)];rfl
theorem qwj {l:List Pt} (h1:decide ((l.length:Int)>16)=true) (h2:decide ((l.length:Int)<64)=true):Fn 25 1 [qaB 0 l] [(0,0,qal l)] (.pv (.bool true)) 0 []:=
 qbi 200 [] [.t true,.t true] tI (Ai h1 (Ai h2 tI)) (by kernel_rfl)
theorem qt2 {l:List Pt} (h1:decide ((l.length:Int)>16)=false) (h2:decide ((l.length:Int)>70)=false):Fn 25 1 [qaB 0 l] [(0,0,qal l)] (.pv (.bool false)) 0 []:=
 qbi 200 [] [.t false,.t false] tI (Ai h1 (Ai h2 tI)) (by kernel_rfl)
theorem qo5 {l:List Pt} (h1:decide ((l.length:Int)>16)=true) (h2:decide ((l.length:Int)<64)=false) (h3:decide ((l.length:Int)>70)=true):Fn 25 1 [qaB 0 l] [(0,0,qal l)] (.pv (.bool true)) 0 []:=
 qbi 200 [] [.t true,.t false,.t true] tI (Ai h1 (Ai h2 (Ai h3 tI))) (by kernel_rfl)
theorem qqO {l:List Pt} (h1:decide ((l.length:Int)>16)=true) (h2:decide ((l.length:Int)<64)=false) (h3:decide ((l.length:Int)>70)=false):Fn 25 1 [qaB 0 l] [(0,0,qal l)] (.pv (.bool false)) 0 []:=
 qbi 200 [] [.t true,.t false,.t false] tI (Ai h1 (Ai h2 (Ai h3 tI))) (by kernel_rfl)
theorem qpJ (l:List Pt):some (SV.row 57 3 (0+l.length) ([]++qbm l))=some (qal l):=by rw[Nat.zero_add,List.nil_append]
theorem qjz (m:List Pt) (p:Pt):qbm m++[iV p.id,iV p.a,iV p.b]=qbm (m++[p]):=by rw[qbU];rfl
theorem qeU:∀ (l:List Pt) (k:Nat),(qbm l).drop (k*3)=qbm (l.drop k)
 | l,0=>by simp
 | [],k+1=>by simp[qbm]
 | p::r,k+1=>by rw[show (k+1)*3=k*3+1+1+1 by omega,List.drop_succ_cons];exact qeU r k
theorem qeW:∀ (l:List Pt) (k:Nat),(qbm l).take (k*3)=qbm (l.take k)
 | l,0=>by simp[qbm]
 | [],k+1=>by simp[qbm]
 | p::r,k+1=>by rw[show (k+1)*3=k*3+1+1+1 by omega,List.take_succ_cons];exact congrArg (fun z=>iV p.id::iV p.a::iV p.b::z) (qeW r k)
theorem qiN (l:List Pt) (k:Nat):((qbm l).drop ((0+0)*3)).take (k*3)=qbm (l.take k):=by rw[Nat.zero_add,qeU,qeW];rfl
theorem qjf (l:List Pt) (k:Nat):((qbm l).drop ((0+k)*3)).take ((l.length-k)*3)=qbm (l.drop k):=by rw[Nat.zero_add,qeU,qeW,List.take_of_length_le (by simp)]
theorem qgo (l:List Pt) (k:Nat) (h:k+1≤l.length):(l.take k++l.drop (k+1)).length=0+k+(l.length-(k+1)):=by simp;omega
theorem qt0 (l:List Pt):SV.ls 2 (0+l.length)=(SV.ls 1 l.length).ren (qaM [(1,2)]):=by rw[Nat.zero_add];rfl
end Go.Proofs.YtkjaanhddkkodaaGreat

namespace Go.Proofs.YtkjaanhddkkodaaGreat
set_option maxRecDepth 100000
open Go.RowKit
theorem qkC {l:List Pt} (h0:0<l.length) (hn:0+l.length≤1000000) :
 Fn 100 1 [.ls 0 l.length] [(0,0,qal l)] (.ls 1 l.length) 1 [(1,0,qal l)]:=
 Fx [(1,2)] [.t false]
  (qt0 l) (Ai (qpJ l) tI) (Ai h0 (Ai hn tI))
theorem qvf {ad:Addr} {c:Nat} :
 Fn 100 0 [.pv (.slice (some ad) 0 c)] [] (.ls 0 0) 1 [(0,0,qal ([]:List Pt))]:=
 Fz [(0,1)] [.k]
  (qaI (qaM [(0,1)]) [(0,0,qal ([]:List Pt))]) (Ai (Nat.zero_le _:0+0≤1000000) tI)
theorem qmQ {c:Nat}:Pure Tryz.prog 100 #[.slice none 0 c] (.slice none 0 0):=
 qad (args:=[.slice none 0 c]) 200 [] (Ai rfl tI) (by kernel_rfl)
end Go.Proofs.YtkjaanhddkkodaaGreat

namespace Go.Proofs.YtkjaanhddkkodaaGreat
set_option maxRecDepth 100000
open Go.RowKit
abbrev qBJ (l:List Pt) (m:List Pt):HpL:=[(2,0,.ls 0 l.length),(3,0,.ls 1 m.length),(0,0,qal l),(1,0,qal m)]
theorem qmd {l m:List Pt} {k:Nat} {p q:Pt} (hk:l[k]?=some p) (hin:0≤(k:Int)∧(k:Int)<(l.length:Int)) (hq:m[k]?=some q) (hin2:0≤(k:Int)∧(k:Int)<(m.length:Int)) (hlt:decide ((k:Int)<(l.length:Int))=true) (hne:(!(p.id==q.id&&(p.a==q.a&&(p.b==q.b&&true))))=false) (hs:iV (IntKind.i64.wrap ((k:Int)+1))=iV (((k+1:Nat):Int))) {e:Exit} {tm2:TmL} {hp2:HpL}
 (r:Rl 2 2 36 0 31 4 ([(2,.pp 2 0),(3,.pp 3 0),(5,.pv (iV ((k+1:Nat):Int)))]) (qBJ l m) e tm2 hp2):Rl 2 2 36 0 31 4 ([(2,.pp 2 0),(3,.pp 3 0),(5,.pv (iV (k:Int)))]) (qBJ l m) e tm2 hp2:=
 RunsL.next [] 300 [.t true,.r (ptV p),.r (ptV q),.t false,Re hs]
  (Ro (Ai hlt (Ai hin (Ai (qaO hk) (Ai hin2 (Ai (qaO hq) (Ai hne (Ai hs tI)))))))) r
theorem qq9 {l m:List Pt} {k:Nat} (hge:decide ((k:Int)<(l.length:Int))=false):Rl 2 2 36 0 31 4 ([(2,.pp 2 0),(3,.pp 3 0),(5,.pv (iV (k:Int)))]) (qBJ l m) (.exit 0) ([]) ([]):=
 RunsL.stop [] 300 [.t false] (fun h=>by cases h)
  (Ro (Ai hge tI))
theorem qpH {l m:List Pt} (hl:(!((l.length:Int)==(m.length:Int)))=false) (r0:Rl 2 2 36 0 31 4 ([(2,.pp 2 0),(3,.pp 3 0),(5,.pv (iV ((0:Nat):Int)))]) (qBJ l m) (.exit 0) ([]) ([])) :
 Fn 36 2 [qaB 0 l,qaB 1 m] [(0,0,qal l),(1,0,qal m)] (.pv (.bool true)) 0 []:=
 Fz [] [.t false,Lf r0]
  tI (Ai hl (Lo r0 [] tI))
end Go.Proofs.YtkjaanhddkkodaaGreat

namespace Go.Proofs.YtkjaanhddkkodaaGreat
set_option maxRecDepth 100000
open Go.RowKit
theorem qmM {l:List Pt} {k:Nat} {p:Pt} {id:Int} (hk:l[k]?=some p) (hin:0≤(k:Int)∧(k:Int)<(l.length:Int)) (hlt:decide ((k:Int)<(l.length:Int))=true) (he:(p.id==id)=false) (hs:iV (IntKind.i64.wrap ((k:Int)+1))=iV (((k+1:Nat):Int))) {e:Exit} {tm2:TmL} {hp2:HpL}
 (r:Rl 1 1 72 0 22 2 ([(1,.pv (iV id)),(2,.pp 1 0),(5,.pv (iV ((k+1:Nat):Int)))]) ([(1,0,.ls 0 l.length),(0,0,qal l)]) e tm2 hp2):Rl 1 1 72 0 22 2 ([(1,.pv (iV id)),(2,.pp 1 0),(5,.pv (iV (k:Int)))]) ([(1,0,.ls 0 l.length),(0,0,qal l)]) e tm2 hp2:=
 RunsL.next [] 300 [.t true,.r (iV p.id),.t false,Re hs]
  (Ro (Ai hlt (Ai hin (Ai (qcK hk) (Ai he (Ai hs tI)))))) r
theorem qza {l:List Pt} {k:Nat} {p:Pt} {id:Int} (hk:l[k]?=some p) (hin:0≤(k:Int)∧(k:Int)<(l.length:Int)) (hlt:decide ((k:Int)<(l.length:Int))=true) (he:(p.id==id)=true):Rl 1 1 72 0 22 2 ([(1,.pv (iV id)),(2,.pp 1 0),(5,.pv (iV (k:Int)))]) ([(1,0,.ls 0 l.length),(0,0,qal l)]) (.ret) ([(4,.pv (iV (k:Int)))]) ([]):=
 RunsL.stop [] 300 [.t true,.r (iV p.id),.t true] (fun h=>by cases h)
  (Ro (Ai hlt (Ai hin (Ai (qcK hk) (Ai he tI)))))
theorem qAd {l:List Pt} {k:Nat} {id:Int} (hge:decide ((k:Int)<(l.length:Int))=false):Rl 1 1 72 0 22 2 ([(1,.pv (iV id)),(2,.pp 1 0),(5,.pv (iV (k:Int)))]) ([(1,0,.ls 0 l.length),(0,0,qal l)]) (.exit 0) ([]) ([]):=
 RunsL.stop [] 300 [.t false] (fun h=>by cases h)
  (Ro (Ai hge tI))
theorem qC9 {l:List Pt} {id:Int} (r0:Rl 1 1 72 0 22 2 ([(1,.pv (iV id)),(2,.pp 1 0),(5,.pv (iV ((0:Nat):Int)))]) ([(1,0,.ls 0 l.length),(0,0,qal l)]) (.exit 0) ([]) ([])) :
 Fn 72 1 [qaB 0 l,.pv (iV (id))] [(0,0,qal l)] (.pv (iV (-1))) 0 []:=
 Fz [] [Lf r0]
  tI (Lo r0 [] tI)
theorem qy7 {l:List Pt} {k:Nat} {id:Int} (r0:Rl 1 1 72 0 22 2 ([(1,.pv (iV id)),(2,.pp 1 0),(5,.pv (iV ((0:Nat):Int)))]) ([(1,0,.ls 0 l.length),(0,0,qal l)]) (.ret) ([(4,.pv (iV (k:Int)))]) ([])) :
 Fn 72 1 [qaB 0 l,.pv (iV (id))] [(0,0,qal l)] (.pv (iV (k:Int))) 0 []:=
 Fz [] [Lf r0]
  tI (Lo r0 [] tI)
end Go.Proofs.YtkjaanhddkkodaaGreat

namespace Go.Proofs.YtkjaanhddkkodaaGreat
set_option maxRecDepth 100000
open Go.RowKit
theorem qjs {l:List Pt} {k:Nat} {p:Pt} (hk:l[k]?=some p) (hin:0≤(k:Int)∧(k:Int)<(l.length:Int)) (hlt:decide ((k:Int)<(l.length:Int))=true) (hc:Pure Tryz.prog 94 #[qac p.id p.a p.b] (iV (0))) (hs:iV (IntKind.i64.wrap ((k:Int)+1))=iV (((k+1:Nat):Int))) {e:Exit} {tm2:TmL} {hp2:HpL}
 (r:Rl 1 1 44 0 44 2 ([(1,.pp 1 0),(3,.pv (iV ((k+1:Nat):Int)))]) ([(1,0,.ls 0 l.length),(0,0,qal l)]) e tm2 hp2):Rl 1 1 44 0 44 2 ([(1,.pp 1 0),(3,.pv (iV (k:Int)))]) ([(1,0,.ls 0 l.length),(0,0,qal l)]) e tm2 hp2:=
 RunsL.next [] 300 [.t true,.r (ptV p),Rf hc,.k,Re hs]
  (Ro (Ai hlt (Ai hin (Ai (qaO hk) (Ai hc (Ai hs tI)))))) r
theorem qtt {l:List Pt} {k:Nat} {p:Pt} (hk:l[k]?=some p) (hin:0≤(k:Int)∧(k:Int)<(l.length:Int)) (hlt:decide ((k:Int)<(l.length:Int))=true) (hc:Pure Tryz.prog 94 #[qac p.id p.a p.b] (iV (8))):Rl 1 1 44 0 44 2 ([(1,.pp 1 0),(3,.pv (iV (k:Int)))]) ([(1,0,.ls 0 l.length),(0,0,qal l)]) (.ret) ([(2,.pv (iV 8))]) ([]):=
 RunsL.stop [] 300 [.t true,.r (ptV p),Rf hc,.k] (fun h=>by cases h)
  (Ro (Ai hlt (Ai hin (Ai (qaO hk) (Ai hc tI)))))
theorem qwx {l:List Pt} {k:Nat} (hge:decide ((k:Int)<(l.length:Int))=false):Rl 1 1 44 0 44 2 ([(1,.pp 1 0),(3,.pv (iV (k:Int)))]) ([(1,0,.ls 0 l.length),(0,0,qal l)]) (.exit 0) ([(1,.pp 1 0)]) ([(1,0,.ls 0 l.length),(0,0,qal l)]):=
 RunsL.stop [] 300 [.t false] (fun h=>by cases h)
  (Ro (Ai hge tI))
theorem qjC {l:List Pt} {k:Nat} {p q:Pt} (hq:l[k]?=some q) (hk:l[k+1]?=some p) (hi0:0≤(k:Int)∧(k:Int)<(l.length:Int)) (hi1:0≤((k+1:Nat):Int)∧((k+1:Nat):Int)<(l.length:Int)) (hlt:decide (((k+1:Nat):Int)<(l.length:Int))=true) (hm:iV (IntKind.i64.wrap (((k+1:Nat):Int)-1))=iV (k:Int)) (hg:decide (q.id≥p.id)=false) (hs:iV (IntKind.i64.wrap (((k+1:Nat):Int)+1))=iV (((k+1+1:Nat):Int))) {e:Exit} {tm2:TmL} {hp2:HpL}
 (r:Rl 1 1 44 1 44 2 ([(1,.pp 1 0),(4,.pv (iV ((k+1+1:Nat):Int)))]) ([(1,0,.ls 0 l.length),(0,0,qal l)]) e tm2 hp2):Rl 1 1 44 1 44 2 ([(1,.pp 1 0),(4,.pv (iV ((k+1:Nat):Int)))]) ([(1,0,.ls 0 l.length),(0,0,qal l)]) e tm2 hp2:=
 RunsL.next [] 300 [.t true,.r (iV (k:Int)),.r (iV q.id),.r (iV p.id),.t false,.r (iV (((k+1+1:Nat):Int)))]
  (Ro (Ai hlt (Ai hm (Ai hi0 (Ai (qcK hq) (Ai hi1 (Ai (qcK hk) (Ai hg (Ai hs tI))))))))) r
theorem qtD {l:List Pt} {k:Nat} {p q:Pt} (hq:l[k]?=some q) (hk:l[k+1]?=some p) (hi0:0≤(k:Int)∧(k:Int)<(l.length:Int)) (hi1:0≤((k+1:Nat):Int)∧((k+1:Nat):Int)<(l.length:Int)) (hlt:decide (((k+1:Nat):Int)<(l.length:Int))=true) (hm:iV (IntKind.i64.wrap (((k+1:Nat):Int)-1))=iV (k:Int)) (hg:decide (q.id≥p.id)=true):Rl 1 1 44 1 44 2 ([(1,.pp 1 0),(4,.pv (iV ((k+1:Nat):Int)))]) ([(1,0,.ls 0 l.length),(0,0,qal l)]) (.ret) ([(2,.pv (iV 32))]) ([]):=
 RunsL.stop [] 300 [.t true,.r (iV (k:Int)),.r (iV q.id),.r (iV p.id),.t true] (fun h=>by cases h)
  (Ro (Ai hlt (Ai hm (Ai hi0 (Ai (qcK hq) (Ai hi1 (Ai (qcK hk) (Ai hg tI))))))))
theorem qoQ {l:List Pt} {k:Nat} (hge:decide (((k:Nat):Int)<(l.length:Int))=false):Rl 1 1 44 1 44 2 ([(1,.pp 1 0),(4,.pv (iV ((k:Nat):Int)))]) ([(1,0,.ls 0 l.length),(0,0,qal l)]) (.exit 2) ([]) ([]):=
 RunsL.stop [] 300 [.t false] (fun h=>by cases h)
  (Ro (Ai hge tI))
theorem qu8 {l:List Pt} (h64:decide ((l.length:Int)>64)=true) :
 Fn 44 1 [qaB 0 l] [(0,0,qal l)] (.pv (iV 4)) 0 []:=
 Fz [] [.t true]
  tI (Ai h64 tI)
theorem qzG {l:List Pt} (h64:decide ((l.length:Int)>64)=false) (r0:Rl 1 1 44 0 44 2 ([(1,.pp 1 0),(3,.pv (iV (((0:Nat):Int):Int)))]) ([(1,0,.ls 0 l.length),(0,0,qal l)]) (.ret) ([(2,.pv (iV 8))]) ([])) :
 Fn 44 1 [qaB 0 l] [(0,0,qal l)] (.pv (iV 8)) 0 []:=
 Fz [] [.t false,Lf r0]
  tI (Ai h64 (Lo r0 [] tI))
abbrev qEW (l:List Pt):Prop:=Rl 1 1 44 0 44 2 ([(1,.pp 1 0),(3,.pv (iV (((0:Nat):Int):Int)))]) ([(1,0,.ls 0 l.length),(0,0,qal l)]) (.exit 0) ([(1,.pp 1 0)]) ([(1,0,.ls 0 l.length),(0,0,qal l)])
theorem qyB {l:List Pt} (h64:decide ((l.length:Int)>64)=false) (r0:qEW l) (r1:Rl 1 1 44 1 44 2 ([(1,.pp 1 0),(4,.pv (iV (((0+1:Nat):Int):Int)))]) ([(1,0,.ls 0 l.length),(0,0,qal l)]) (.ret) ([(2,.pv (iV 32))]) ([])) :
 Fn 44 1 [qaB 0 l] [(0,0,qal l)] (.pv (iV 32)) 0 []:=
 Fz [] [.t false,Lf r0,Lf r1]
  tI (Ai h64 (Lo r0 [] (Lo r1 [] tI)))
theorem qDD {l:List Pt} (h64:decide ((l.length:Int)>64)=false) (r0:qEW l) (r1:Rl 1 1 44 1 44 2 ([(1,.pp 1 0),(4,.pv (iV (((0+1:Nat):Int):Int)))]) ([(1,0,.ls 0 l.length),(0,0,qal l)]) (.exit 2) ([]) ([])) :
 Fn 44 1 [qaB 0 l] [(0,0,qal l)] (.pv (iV 0)) 0 []:=
 Fz [] [.t false,Lf r0,Lf r1]
  tI (Ai h64 (Lo r0 [] (Lo r1 [] tI)))
end Go.Proofs.YtkjaanhddkkodaaGreat

namespace Go.Proofs.YtkjaanhddkkodaaGreat
set_option maxRecDepth 100000
open Go.RowKit
abbrev qEt (k:Nat) (l:List Pt):TmL:=[(1,.pp 1 0),(12,.ls 0 l.length),(13,.pv (iV (l.length:Int))),(14,.pv (iV (k:Int)))]
theorem qka {l:List Pt} {k:Nat} {p:Pt} (hk:l[k]?=some p) (hin:0≤(k:Int)∧(k:Int)<(l.length:Int)) (hlt:decide ((k:Int)<(l.length:Int))=true) (hc:Pure Tryz.prog 95 #[qac p.id p.a p.b] (iV (0))) (hs:iV (IntKind.i64.wrap ((k:Int)+1))=iV (((k+1:Nat):Int))) {e:Exit} {tm2:TmL} {hp2:HpL}
 (r:Rl 1 1 48 0 45 2 ([(1,.pp 1 0),(12,.ls 0 l.length),(13,.pv (iV (l.length:Int))),(14,.pv (iV ((k+1:Nat):Int)))]) ([(1,0,.ls 0 l.length),(0,0,qal l)]) e tm2 hp2):Rl 1 1 48 0 45 2 (qEt k l) ([(1,0,.ls 0 l.length),(0,0,qal l)]) e tm2 hp2:=
 RunsL.next [] 300 [.t true,.r (ptV p),Rf hc,.k,Re hs]
  (Ro (Ai hlt (Ai hin (Ai (qaO hk) (Ai hc (Ai hs tI)))))) r
theorem qwD {l:List Pt} {k:Nat} {p:Pt} (hk:l[k]?=some p) (hin:0≤(k:Int)∧(k:Int)<(l.length:Int)) (hlt:decide ((k:Int)<(l.length:Int))=true) (hc:Pure Tryz.prog 95 #[qac p.id p.a p.b] (iV (8))):Rl 1 1 48 0 45 2 (qEt k l) ([(1,0,.ls 0 l.length),(0,0,qal l)]) (.ret) ([(2,.pv (iV 8))]) ([]):=
 RunsL.stop [] 300 [.t true,.r (ptV p),Rf hc,.k] (fun h=>by cases h)
  (Ro (Ai hlt (Ai hin (Ai (qaO hk) (Ai hc tI)))))
theorem qte {l:List Pt} {k:Nat} (hge:decide ((k:Int)<(l.length:Int))=false):Rl 1 1 48 0 45 2 (qEt k l) ([(1,0,.ls 0 l.length),(0,0,qal l)]) (.exit 0) ([(1,.pp 1 0)]) ([(1,0,.ls 0 l.length),(0,0,qal l)]):=
 RunsL.stop [] 300 [.t false] (fun h=>by cases h)
  (Ro (Ai hge tI))
theorem qkm {l:List Pt} {k:Nat} {p q:Pt} (hq:l[k]?=some q) (hk:l[k+1]?=some p) (hi0:0≤(k:Int)∧(k:Int)<(l.length:Int)) (hi1:0≤((k+1:Nat):Int)∧((k+1:Nat):Int)<(l.length:Int)) (hlt:decide (((k+1:Nat):Int)<(l.length:Int))=true) (hm:iV (IntKind.i64.wrap (((k+1:Nat):Int)-1))=iV (k:Int)) (hg:decide (q.id≥p.id)=false) (hs:iV (IntKind.i64.wrap (((k+1:Nat):Int)+1))=iV (((k+1+1:Nat):Int))) {e:Exit} {tm2:TmL} {hp2:HpL}
 (r:Rl 1 1 48 1 45 2 ([(1,.pp 1 0),(6,.pv (iV ((k+1+1:Nat):Int)))]) ([(1,0,.ls 0 l.length),(0,0,qal l)]) e tm2 hp2):Rl 1 1 48 1 45 2 ([(1,.pp 1 0),(6,.pv (iV ((k+1:Nat):Int)))]) ([(1,0,.ls 0 l.length),(0,0,qal l)]) e tm2 hp2:=
 RunsL.next [] 300 [.t true,.r (iV (k:Int)),.r (iV q.id),.r (iV p.id),.t false,.r (iV (((k+1+1:Nat):Int)))]
  (Ro (Ai hlt (Ai hm (Ai hi0 (Ai (qcK hq) (Ai hi1 (Ai (qcK hk) (Ai hg (Ai hs tI))))))))) r
theorem qtK {l:List Pt} {k:Nat} {p q:Pt} (hq:l[k]?=some q) (hk:l[k+1]?=some p) (hi0:0≤(k:Int)∧(k:Int)<(l.length:Int)) (hi1:0≤((k+1:Nat):Int)∧((k+1:Nat):Int)<(l.length:Int)) (hlt:decide (((k+1:Nat):Int)<(l.length:Int))=true) (hm:iV (IntKind.i64.wrap (((k+1:Nat):Int)-1))=iV (k:Int)) (hg:decide (q.id≥p.id)=true):Rl 1 1 48 1 45 2 ([(1,.pp 1 0),(6,.pv (iV ((k+1:Nat):Int)))]) ([(1,0,.ls 0 l.length),(0,0,qal l)]) (.ret) ([(2,.pv (iV 32))]) ([]):=
 RunsL.stop [] 300 [.t true,.r (iV (k:Int)),.r (iV q.id),.r (iV p.id),.t true] (fun h=>by cases h)
  (Ro (Ai hlt (Ai hm (Ai hi0 (Ai (qcK hq) (Ai hi1 (Ai (qcK hk) (Ai hg tI))))))))
theorem qnR {l:List Pt} {k:Nat} (hge:decide ((k:Int)<(l.length:Int))=false):Rl 1 1 48 1 45 2 ([(1,.pp 1 0),(6,.pv (iV ((k:Nat):Int)))]) ([(1,0,.ls 0 l.length),(0,0,qal l)]) (.exit 2) ([]) ([]):=
 RunsL.stop [] 300 [.t false] (fun h=>by cases h)
  (Ro (Ai hge tI))
theorem qsS {l:List Pt} (h64:decide ((l.length:Int)>64)=true) :
 Fn 48 1 [qaB 0 l] [(0,0,qal l)] (.pv (iV (4))) 0 []:=
 Fz [] [.t true]
  tI (Ai h64 tI)
theorem qzx {l:List Pt} (h64:decide ((l.length:Int)>64)=false) (r0:Rl 1 1 48 0 45 2 ([(1,.pp 1 0),(12,.ls 0 l.length),(13,.pv (iV (l.length:Int))),(14,.pv (iV ((0:Nat):Int)))]) ([(1,0,.ls 0 l.length),(0,0,qal l)]) (.ret) ([(2,.pv (iV 8))]) ([])) :
 Fn 48 1 [qaB 0 l] [(0,0,qal l)] (.pv (iV (8))) 0 []:=
 Fz [] [.t false,Lf r0]
  tI (Ai h64 (Lo r0 [] tI))
abbrev qE9 (l:List Pt):Prop:=Rl 1 1 48 0 45 2 ([(1,.pp 1 0),(12,.ls 0 l.length),(13,.pv (iV (l.length:Int))),(14,.pv (iV ((0:Nat):Int)))]) ([(1,0,.ls 0 l.length),(0,0,qal l)]) (.exit 0) ([(1,.pp 1 0)]) ([(1,0,.ls 0 l.length),(0,0,qal l)])
theorem qyd {l:List Pt} (h64:decide ((l.length:Int)>64)=false) (r0:qE9 l) (r1:Rl 1 1 48 1 45 2 ([(1,.pp 1 0),(6,.pv (iV ((0+1:Nat):Int)))]) ([(1,0,.ls 0 l.length),(0,0,qal l)]) (.ret) ([(2,.pv (iV 32))]) ([])) :
 Fn 48 1 [qaB 0 l] [(0,0,qal l)] (.pv (iV (32))) 0 []:=
 Fz [] [.t false,Lf r0,Lf r1]
  tI (Ai h64 (Lo r0 [] (Lo r1 [] tI)))
theorem qCX {l:List Pt} (h64:decide ((l.length:Int)>64)=false) (r0:qE9 l) (r1:Rl 1 1 48 1 45 2 ([(1,.pp 1 0),(6,.pv (iV ((0+1:Nat):Int)))]) ([(1,0,.ls 0 l.length),(0,0,qal l)]) (.exit 2) ([]) ([])) :
 Fn 48 1 [qaB 0 l] [(0,0,qal l)] (.pv (iV (0))) 0 []:=
 Fz [] [.t false,Lf r0,Lf r1]
  tI (Ai h64 (Lo r0 [] (Lo r1 [] tI)))
end Go.Proofs.YtkjaanhddkkodaaGreat
