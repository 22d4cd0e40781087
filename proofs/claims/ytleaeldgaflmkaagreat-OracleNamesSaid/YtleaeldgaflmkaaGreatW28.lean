/-
  Joined: Vk, Cp, Cs, Pl, Za. Conditions: none.
-/
import Derived.Test.YtleaeldgaflmkaaGreatSxP
import Derived.Test.YtleaeldgaflmkaaGreatW25
import Derived.Test.YtleaeldgaflmkaaGreatW26
import Derived.Laws.Bits64b
import Derived.Test.YtleaeldgaflmkaaGreatSxJ
import Derived.Test.YtleaeldgaflmkaaGreatProg
namespace Go.Proofs.YtleaeldgaflmkaaGreat
set_option maxRecDepth 100000
open Go.RowKit
section
variable {P:Program} {f:FuncId} {k m:Nat} {args:List SV} {pre post:List (Nat×Nat×SV)} {x x':SV}
theorem qeI (h:FnL P f k args pre x m post) (hx:∀ (β:Bl) (v:Value),x.is β v→x'.is β v):FnL P f k args pre x' m post:=fun w β us hH hd hi=>
 (h w β us hH hd hi).mono fun _ _ ⟨v,β',he,hle,hv,hh,hd'⟩=>⟨v,β',he,hle,hx β' v hv,hh,hd'⟩
theorem qwm {m':Nat} (hm:m≤m') (h:FnL P f k args pre x m post):FnL P f k args pre x m' post:=fun w β us hH hd hi=>
 (h w β us hH hd hi).mono fun _ _ ⟨v,β',he,hle,hv,hh,hd'⟩=>⟨v,β',he,hle,hv,hh,fun b hb=>hd' b (by omega)⟩
theorem qtC {j es n:Nat} {e:TypeId} {xs:List Value} (h:FnL P f k args pre x m post) (hj:k≤j) (hl:qae post j 0=some (.row e es n xs))
 (hx:∀ (β β':Bl) (v u:Value),β.le β'→β.g j=some u→(S0.dv es n (xs.map .v)).is β' u→x.is β v→x'.is β' v):FnL P f k args pre x' m (qaT (some j) post):=fun w β us hH hd hi=>
 (h w β us hH hd hi).mono fun ex w' ⟨v,β',he,hle,hv,hh,hd'⟩=>by
  obtain⟨u,g1,g2⟩:=hh.rows _ _ _ _ _ _ hl
  obtain⟨hle2,HI⟩:=hh.ice (m:=j) (k:=u.ownBlock) (fun i hi=>⟨(qal (g2.own hj) i hi).1,(qal (g2.own hj) i hi).2,hh.fz.row _ _ _ _ _ hl rfl hj g1 hi⟩) (fun c o s r hc hne hr e=>g2.apart hj c r hr e) (fun c o s u' hc hs hne hlc hu' i hi e=>hh.rinj0 _ _ _ _ _ _ u u' hl hc rfl hs hj hlc (fun e=>hne e.symm) g1 hu' i e hi)
  refine⟨v,β'.ice u.ownBlock w',he,Bl.le_trans hle hle2,hx β' _ v u hle2 g1 ?_ hv,HI,hd'⟩
  exact qdy ⟨g2.rd,g2.one⟩ (.plain _) fun _ i hi=>by show (if u.ownBlock=some i then w'.heap[i]? else β'.h i)=_;rw[if_pos hi]
theorem qiA {h:Nat→Option Obj} {es:Nat}:DenH h (.sl es 0 []) (.slice none 0 0):=DenH.sl (xs:=[]) (by simp) (Nat.le_refl _) (fun _ hh=>by cases hh) (fun j v hj=>by simp at hj) .nil
end
end Go.Proofs.YtleaeldgaflmkaaGreat

namespace Go.Proofs.YtleaeldgaflmkaaGreat
set_option maxRecDepth 100000
open Go.RowKit
abbrev qab (n a b:Int):Value:=.agg #[iV n,iV a,iV b]
theorem qyL {pi pa pb:Int} (i0:decide (pi<0)=true) :
 Pure Tryz.prog 60 #[qab pi pa pb] (iV 8):=
 qac (args:=[qab pi pa pb]) 200 [.t true]
  (Ai rfl (Ai i0 tI)) (by kernel_rfl)
theorem qyb {pi pa pb:Int} (i0:decide (pi<0)=false) (i1:decide (pi>65535)=true) :
 Pure Tryz.prog 60 #[qab pi pa pb] (iV 8):=
 qac (args:=[qab pi pa pb]) 200 [.t false,.t true]
  (Ai rfl (Ai i0 (Ai i1 tI))) (by kernel_rfl)
theorem qyR {pi pa pb:Int} (i0:decide (pi<0)=false) (i1:decide (pi>65535)=false) (la:decide (-1048576≤pa)=false) :
 Pure Tryz.prog 60 #[qab pi pa pb] (iV 8):=
 qac (args:=[qab pi pa pb]) 200 [.t false,.t false,.k,.t false,.k]
  (Ai rfl (Ai i0 (Ai i1 (Ai la tI)))) (by kernel_rfl)
theorem qyM {pi pa pb:Int} (i0:decide (pi<0)=false) (i1:decide (pi>65535)=false) (la:decide (-1048576≤pa)=true) (ha:decide (pa≤1048576)=false) :
 Pure Tryz.prog 60 #[qab pi pa pb] (iV 8):=
 qac (args:=[qab pi pa pb]) 200 [.t false,.t false,.k,.t true,.t false,.k]
  (Ai rfl (Ai i0 (Ai i1 (Ai la (Ai ha tI))))) (by kernel_rfl)
theorem qyc {pi pa pb:Int} (i0:decide (pi<0)=false) (i1:decide (pi>65535)=false) (la:decide (-1048576≤pa)=true) (ha:decide (pa≤1048576)=true) (lb:decide (-1048576≤pb)=false) :
 Pure Tryz.prog 60 #[qab pi pa pb] (iV 8):=
 qac (args:=[qab pi pa pb]) 200 [.t false,.t false,.k,.t true,.t true,.k,.k,.t false,.k]
  (Ai rfl (Ai i0 (Ai i1 (Ai la (Ai ha (Ai lb tI)))))) (by kernel_rfl)
theorem qzt {pi pa pb:Int} (i0:decide (pi<0)=false) (i1:decide (pi>65535)=false) (la:decide (-1048576≤pa)=true) (ha:decide (pa≤1048576)=true) (lb:decide (-1048576≤pb)=true) (hb:decide (pb≤1048576)=false) :
 Pure Tryz.prog 60 #[qab pi pa pb] (iV 8):=
 qac (args:=[qab pi pa pb]) 200 [.t false,.t false,.k,.t true,.t true,.k,.k,.t true,.t false,.k]
  (Ai rfl (Ai i0 (Ai i1 (Ai la (Ai ha (Ai lb (Ai hb tI))))))) (by kernel_rfl)
theorem qyH {pi pa pb:Int} (i0:decide (pi<0)=false) (i1:decide (pi>65535)=false) (la:decide (-1048576≤pa)=true) (ha:decide (pa≤1048576)=true) (lb:decide (-1048576≤pb)=true) (hb:decide (pb≤1048576)=true) :
 Pure Tryz.prog 60 #[qab pi pa pb] (iV 0):=
 qac (args:=[qab pi pa pb]) 200 [.t false,.t false,.k,.t true,.t true,.k,.k,.t true,.t true,.k]
  (Ai rfl (Ai i0 (Ai i1 (Ai la (Ai ha (Ai lb (Ai hb tI))))))) (by kernel_rfl)
theorem qyF {pi pa pb:Int} (i0:decide (pi<0)=true) :
 Pure Tryz.prog 30 #[qab pi pa pb] (iV 8):=
 qac (args:=[qab pi pa pb]) 200 [.t true]
  (Ai rfl (Ai i0 tI)) (by kernel_rfl)
theorem qxG {pi pa pb:Int} (i0:decide (pi<0)=false) (i1:decide (pi>65535)=true) :
 Pure Tryz.prog 30 #[qab pi pa pb] (iV 8):=
 qac (args:=[qab pi pa pb]) 200 [.t false,.t true]
  (Ai rfl (Ai i0 (Ai i1 tI))) (by kernel_rfl)
theorem qzA {pi pa pb:Int} (i0:decide (pi<0)=false) (i1:decide (pi>65535)=false) (la:decide (pa < -1048576)=true) :
 Pure Tryz.prog 30 #[qab pi pa pb] (iV 8):=
 qac (args:=[qab pi pa pb]) 200 [.t false,.t false,.t true]
  (Ai rfl (Ai i0 (Ai i1 (Ai la tI)))) (by kernel_rfl)
theorem qxH {pi pa pb:Int} (i0:decide (pi<0)=false) (i1:decide (pi>65535)=false) (la:decide (pa < -1048576)=false) (ha:decide (pa>1048576)=true) :
 Pure Tryz.prog 30 #[qab pi pa pb] (iV 8):=
 qac (args:=[qab pi pa pb]) 200 [.t false,.t false,.t false,.t true]
  (Ai rfl (Ai i0 (Ai i1 (Ai la (Ai ha tI))))) (by kernel_rfl)
theorem qyg {pi pa pb:Int} (i0:decide (pi<0)=false) (i1:decide (pi>65535)=false) (la:decide (pa < -1048576)=false) (ha:decide (pa>1048576)=false) (lb:decide (pb < -1048576)=true) :
 Pure Tryz.prog 30 #[qab pi pa pb] (iV 8):=
 qac (args:=[qab pi pa pb]) 200 [.t false,.t false,.t false,.t false,.t true]
  (Ai rfl (Ai i0 (Ai i1 (Ai la (Ai ha (Ai lb tI)))))) (by kernel_rfl)
theorem qyx {pi pa pb:Int} (i0:decide (pi<0)=false) (i1:decide (pi>65535)=false) (la:decide (pa < -1048576)=false) (ha:decide (pa>1048576)=false) (lb:decide (pb < -1048576)=false) (hb:decide (pb>1048576)=true) :
 Pure Tryz.prog 30 #[qab pi pa pb] (iV 8):=
 qac (args:=[qab pi pa pb]) 200 [.t false,.t false,.t false,.t false,.t false,.t true]
  (Ai rfl (Ai i0 (Ai i1 (Ai la (Ai ha (Ai lb (Ai hb tI))))))) (by kernel_rfl)
theorem qwW {pi pa pb:Int} (i0:decide (pi<0)=false) (i1:decide (pi>65535)=false) (la:decide (pa < -1048576)=false) (ha:decide (pa>1048576)=false) (lb:decide (pb < -1048576)=false) (hb:decide (pb>1048576)=false) :
 Pure Tryz.prog 30 #[qab pi pa pb] (iV 0):=
 qac (args:=[qab pi pa pb]) 200 [.t false,.t false,.t false,.t false,.t false,.t false]
  (Ai rfl (Ai i0 (Ai i1 (Ai la (Ai ha (Ai lb (Ai hb tI))))))) (by kernel_rfl)
theorem qhm {pi pa pb qi qa qb x y m n:Int} (v1:iV (IntKind.i64.wrap (qa-pa))=iV x) (v2:iV (IntKind.i64.wrap (pb-qb))=iV y) (c1:Pure Tryz.prog 87 #[iV x,iV y] (.tuple #[qaa m n,iV 0])) :
 Pure Tryz.prog 133 #[qab pi pa pb,qab qi qa qb] (qaa m n):=
 qac (args:=[qab pi pa pb,qab qi qa qb]) 200 [Re v1,Re v2,Rf c1]
  (Ai rfl (Ai v1 (Ai v2 (Ai c1 tI)))) (by kernel_rfl)
abbrev qrw (d:Int) (n:Int):Prop:=Pure Tryz.prog 61 #[qaa n d] (iV 0)
abbrev qrm (pa:Int) (pb:Int) (pi:Int) (qa:Int) (qb:Int) (qi:Int):Prop:=Pure Tryz.prog 110 #[qab pi pa pb,qab qi qa qb] (iV 0)
abbrev qqS (pa:Int) (pb:Int) (pi:Int):Prop:=Pure Tryz.prog 60 #[qab pi pa pb] (iV 0)
abbrev qrk (qa:Int) (qb:Int) (qi:Int):Prop:=Pure Tryz.prog 60 #[qab qi qa qb] (iV 0)
theorem qp9 {pi pa pb qi qa qb n d:Int} (cp:qqS pa pb pi) (cq:qrk qa qb qi) (ct:qrw d n) (ci:qrm pa pb pi qa qb qi) (w:(pa==qa&&(pb==qb&&true))=true) (r:decide (pi<qi)=true) :
 Pure Tryz.prog 81 #[qab pi pa pb,qab qi qa qb,qaa n d] (.tuple #[.bool true,iV 0]):=
 qac (args:=[qab pi pa pb,qab qi qa qb,qaa n d]) 200 [Rf cp,Rf cp,Rf cp,Rf cp,.k,.k,.k,.k,.k,.k,.k,.k,.k,.k,.k,.k,.k,.k,.k,.k,.k,.k,.t true,.k,.t true]
  (Ai rfl (Ai cp (Ai cq (Ai ct (Ai ci (Ai w (Ai r tI))))))) (by kernel_rfl)
theorem qoU {pi pa pb qi qa qb n d:Int} (cp:qqS pa pb pi) (cq:qrk qa qb qi) (ct:qrw d n) (ci:qrm pa pb pi qa qb qi) (w:(pa==qa&&(pb==qb&&true))=false) (bb:(pb==qb)=true) (r:decide (pa>qa)=true) :
 Pure Tryz.prog 81 #[qab pi pa pb,qab qi qa qb,qaa n d] (.tuple #[.bool true,iV 0]):=
 qac (args:=[qab pi pa pb,qab qi qa qb,qaa n d]) 200 [Rf cp,Rf cp,Rf cp,Rf cp,.k,.k,.k,.k,.k,.k,.k,.k,.k,.k,.k,.k,.k,.k,.k,.k,.k,.k,.t false,.t true,.k,.t true]
  (Ai rfl (Ai cp (Ai cq (Ai ct (Ai ci (Ai w (Ai bb (Ai r tI)))))))) (by kernel_rfl)
theorem qo4 {pi pa pb qi qa qb n d:Int} (cp:qqS pa pb pi) (cq:qrk qa qb qi) (ct:qrw d n) (ci:qrm pa pb pi qa qb qi) (w:(pa==qa&&(pb==qb&&true))=true) (r:decide (pi<qi)=false) :
 Pure Tryz.prog 81 #[qab pi pa pb,qab qi qa qb,qaa n d] (.tuple #[.bool false,iV 0]):=
 qac (args:=[qab pi pa pb,qab qi qa qb,qaa n d]) 200 [Rf cp,Rf cp,Rf cp,Rf cp,.k,.k,.k,.k,.k,.k,.k,.k,.k,.k,.k,.k,.k,.k,.k,.k,.k,.k,.t true,.k,.t false]
  (Ai rfl (Ai cp (Ai cq (Ai ct (Ai ci (Ai w (Ai r tI))))))) (by kernel_rfl)
theorem qpt {pi pa pb qi qa qb n d:Int} (cp:qqS pa pb pi) (cq:qrk qa qb qi) (ct:qrw d n) (ci:qrm pa pb pi qa qb qi) (w:(pa==qa&&(pb==qb&&true))=false) (bb:(pb==qb)=true) (r:decide (pa>qa)=false) :
 Pure Tryz.prog 81 #[qab pi pa pb,qab qi qa qb,qaa n d] (.tuple #[.bool false,iV 0]):=
 qac (args:=[qab pi pa pb,qab qi qa qb,qaa n d]) 200 [Rf cp,Rf cp,Rf cp,Rf cp,.k,.k,.k,.k,.k,.k,.k,.k,.k,.k,.k,.k,.k,.k,.k,.k,.k,.k,.t false,.t true,.k,.t false]
  (Ai rfl (Ai cp (Ai cq (Ai ct (Ai ci (Ai w (Ai bb (Ai r tI)))))))) (by kernel_rfl)
abbrev qw9 (d:Int) (k:Int) (md:Int) (mn:Int) (n:Int):Prop:=Pure Tryz.prog 102 #[qaa n d,qaa mn md] (.tuple #[iV k,iV 0])
theorem qlK {pi pa pb qi qa qb n d mn md k:Int} (cp:qqS pa pb pi) (cq:qrk qa qb qi) (ct:qrw d n) (ci:qrm pa pb pi qa qb qi) (w:(pa==qa&&(pb==qb&&true))=false) (bb:(pb==qb)=false) (cm:Pure Tryz.prog 133 #[qab pi pa pb,qab qi qa qb] (qaa mn md)) (cc:qw9 d k md mn n) (g1:decide (k≥0)=true) (g2:decide (pb>qb)=true) :
 Pure Tryz.prog 81 #[qab pi pa pb,qab qi qa qb,qaa n d] (.tuple #[.bool true,iV 0]):=
 qac (args:=[qab pi pa pb,qab qi qa qb,qaa n d]) 200 [Rf cp,Rf cp,Rf cp,Rf cp,.k,.k,.k,.k,.k,.k,.k,.k,.k,.k,.k,.k,.k,.k,.k,.k,.k,.k,.t false,.t false,Rf cm,.k,Rf cc,.t true,.t true]
  (Ai rfl (Ai cp (Ai cq (Ai ct (Ai ci (Ai w (Ai bb (Ai cm (Ai cc (Ai g1 (Ai g2 tI))))))))))) (by kernel_rfl)
theorem ql8 {pi pa pb qi qa qb n d mn md k:Int} (cp:qqS pa pb pi) (cq:qrk qa qb qi) (ct:qrw d n) (ci:qrm pa pb pi qa qb qi) (w:(pa==qa&&(pb==qb&&true))=false) (bb:(pb==qb)=false) (cm:Pure Tryz.prog 133 #[qab pi pa pb,qab qi qa qb] (qaa mn md)) (cc:qw9 d k md mn n) (g1:decide (k≥0)=true) (g2:decide (pb>qb)=false) :
 Pure Tryz.prog 81 #[qab pi pa pb,qab qi qa qb,qaa n d] (.tuple #[.bool false,iV 0]):=
 qac (args:=[qab pi pa pb,qab qi qa qb,qaa n d]) 200 [Rf cp,Rf cp,Rf cp,Rf cp,.k,.k,.k,.k,.k,.k,.k,.k,.k,.k,.k,.k,.k,.k,.k,.k,.k,.k,.t false,.t false,Rf cm,.k,Rf cc,.t true,.t false]
  (Ai rfl (Ai cp (Ai cq (Ai ct (Ai ci (Ai w (Ai bb (Ai cm (Ai cc (Ai g1 (Ai g2 tI))))))))))) (by kernel_rfl)
theorem qlE {pi pa pb qi qa qb n d mn md k:Int} (cp:qqS pa pb pi) (cq:qrk qa qb qi) (ct:qrw d n) (ci:qrm pa pb pi qa qb qi) (w:(pa==qa&&(pb==qb&&true))=false) (bb:(pb==qb)=false) (cm:Pure Tryz.prog 133 #[qab pi pa pb,qab qi qa qb] (qaa mn md)) (cc:qw9 d k md mn n) (g1:decide (k≥0)=false) (g2:decide (pb>qb)=true) :
 Pure Tryz.prog 81 #[qab pi pa pb,qab qi qa qb,qaa n d] (.tuple #[.bool false,iV 0]):=
 qac (args:=[qab pi pa pb,qab qi qa qb,qaa n d]) 200 [Rf cp,Rf cp,Rf cp,Rf cp,.k,.k,.k,.k,.k,.k,.k,.k,.k,.k,.k,.k,.k,.k,.k,.k,.k,.k,.t false,.t false,Rf cm,.k,Rf cc,.t false,.t true]
  (Ai rfl (Ai cp (Ai cq (Ai ct (Ai ci (Ai w (Ai bb (Ai cm (Ai cc (Ai g1 (Ai g2 tI))))))))))) (by kernel_rfl)
theorem qlT {pi pa pb qi qa qb n d mn md k:Int} (cp:qqS pa pb pi) (cq:qrk qa qb qi) (ct:qrw d n) (ci:qrm pa pb pi qa qb qi) (w:(pa==qa&&(pb==qb&&true))=false) (bb:(pb==qb)=false) (cm:Pure Tryz.prog 133 #[qab pi pa pb,qab qi qa qb] (qaa mn md)) (cc:qw9 d k md mn n) (g1:decide (k≥0)=false) (g2:decide (pb>qb)=false) :
 Pure Tryz.prog 81 #[qab pi pa pb,qab qi qa qb,qaa n d] (.tuple #[.bool true,iV 0]):=
 qac (args:=[qab pi pa pb,qab qi qa qb,qaa n d]) 200 [Rf cp,Rf cp,Rf cp,Rf cp,.k,.k,.k,.k,.k,.k,.k,.k,.k,.k,.k,.k,.k,.k,.k,.k,.k,.k,.t false,.t false,Rf cm,.k,Rf cc,.t false,.t false]
  (Ai rfl (Ai cp (Ai cq (Ai ct (Ai ci (Ai w (Ai bb (Ai cm (Ai cc (Ai g1 (Ai g2 tI))))))))))) (by kernel_rfl)
theorem qva {pi pa pb qi qa qb:Int} (ij:(pi==qi)=false) :
 Pure Tryz.prog 110 #[qab pi pa pb,qab qi qa qb] (iV 0):=
 qac (args:=[qab pi pa pb,qab qi qa qb]) 200 [.t false]
  (Ai rfl (Ai ij tI)) (by kernel_rfl)
end Go.Proofs.YtleaeldgaflmkaaGreat

namespace Go.Proofs.YtleaeldgaflmkaaGreat
set_option maxRecDepth 100000
open Go.RowKit
theorem qn1 {pi pa pb qi qa qb:Int} (cp:Pure Tryz.prog 60 #[qab pi pa pb] (iV 0)) (cq:Pure Tryz.prog 60 #[qab qi qa qb] (iV 0)) (ci:Pure Tryz.prog 110 #[qab pi pa pb,qab qi qa qb] (iV 0)) (bb:(pb==qb)=true) :
 Pure Tryz.prog 180 #[qab pi pa pb,qab qi qa qb] (.tuple #[qaa 0 0,iV 6]):=
 qac (args:=[qab pi pa pb,qab qi qa qb]) 200 [Rf cp,Rf cp,Rf cp,.k,.k,.k,.k,.k,.k,.k,.k,.k,.k,.k,.k,.t true]
  (Ai rfl (Ai cp (Ai cq (Ai ci (Ai bb tI))))) (by kernel_rfl)
theorem qnL {pi pa pb qi qa qb m k:Int} (cp:Pure Tryz.prog 60 #[qab pi pa pb] (iV 0)) (cq:Pure Tryz.prog 60 #[qab qi qa qb] (iV 0)) (ci:Pure Tryz.prog 110 #[qab pi pa pb,qab qi qa qb] (iV 0)) (bb:(pb==qb)=false) (cm:Pure Tryz.prog 133 #[qab pi pa pb,qab qi qa qb] (qaa m k)) :
 Pure Tryz.prog 180 #[qab pi pa pb,qab qi qa qb] (.tuple #[qaa m k,iV 0]):=
 qac (args:=[qab pi pa pb,qab qi qa qb]) 200 [Rf cp,Rf cp,Rf cp,.k,.k,.k,.k,.k,.k,.k,.k,.k,.k,.k,.k,.t false,Rf cm]
  (Ai rfl (Ai cp (Ai cq (Ai ci (Ai bb (Ai cm tI)))))) (by kernel_rfl)
end Go.Proofs.YtleaeldgaflmkaaGreat

namespace Go.Proofs.YtleaeldgaflmkaaGreat
set_option maxRecDepth 100000
open Go.RowKit
theorem qla {n h l:Int} (nz:¬ (32:Int)<0) (v1:iV (n.fdiv (2 ^ (min (32:Int).toNat IntKind.i64.bits)))=iV h) (v2:iV (bits .and .i64 n 4294967295)=iV l) :
 Pure Tryz.prog 89 #[iV n] (.agg #[iV h,iV l]):=
 qac (args:=[iV n]) 200 [.r (iV h),Re v2]
  (Ai rfl (Ai nz (Ai v1 (Ai v2 tI)))) (by kernel_rfl)
theorem qlW {a b x0 x1 y0 y1 p0 q0 s0 p1 q1 s1:Int} (m0:iV (IntKind.i64.wrap (a*x0))=iV p0) (n0:iV (IntKind.i64.wrap (b*y0))=iV q0) (s0e:iV (IntKind.i64.wrap (p0+q0))=iV s0) (m1:iV (IntKind.i64.wrap (a*x1))=iV p1) (n1:iV (IntKind.i64.wrap (b*y1))=iV q1) (s1e:iV (IntKind.i64.wrap (p1+q1))=iV s1) :
 Pure Tryz.prog 88 #[iV a,.agg #[iV x0,iV x1],iV b,.agg #[iV y0,iV y1]] (.agg #[iV s0,iV s1]):=
 qac (args:=[iV a,.agg #[iV x0,iV x1],iV b,.agg #[iV y0,iV y1]]) 200 [.k,Re m0,Re n0,Re s0e,.k,.k,Re m1,Re n1,Re s1e,.k,.k]
  (Ai rfl (Ai m0 (Ai n0 (Ai s0e (Ai m1 (Ai n1 (Ai s1e tI))))))) (by kernel_rfl)
theorem qnW {s0 s1 c h:Int} (nz:¬ (32:Int)<0) (v1:iV (s1.fdiv (2 ^ (min (32:Int).toNat IntKind.i64.bits)))=iV c) (v2:iV (IntKind.i64.wrap (s0+c))=iV h) (t1:decide (h < -2147483648)=true) :
 Pure Tryz.prog 90 #[.agg #[iV s0,iV s1]] (.tuple #[iV 0,.bool false]):=
 qac (args:=[.agg #[iV s0,iV s1]]) 200 [.r (iV c),Re v2,.t true]
  (Ai rfl (Ai nz (Ai v1 (Ai v2 (Ai t1 tI))))) (by kernel_rfl)
theorem ql2 {s0 s1 c h:Int} (nz:¬ (32:Int)<0) (v1:iV (s1.fdiv (2 ^ (min (32:Int).toNat IntKind.i64.bits)))=iV c) (v2:iV (IntKind.i64.wrap (s0+c))=iV h) (t1:decide (h < -2147483648)=false) (t2:decide (h>2147483647)=true) :
 Pure Tryz.prog 90 #[.agg #[iV s0,iV s1]] (.tuple #[iV 0,.bool false]):=
 qac (args:=[.agg #[iV s0,iV s1]]) 200 [.r (iV c),Re v2,.t false,.t true]
  (Ai rfl (Ai nz (Ai v1 (Ai v2 (Ai t1 (Ai t2 tI)))))) (by kernel_rfl)
theorem qno {s0 s1 c h hh l r:Int} (nz:¬ (32:Int)<0) (v1:iV (s1.fdiv (2 ^ (min (32:Int).toNat IntKind.i64.bits)))=iV c) (v2:iV (IntKind.i64.wrap (s0+c))=iV h) (t1:decide (h < -2147483648)=false) (t2:decide (h>2147483647)=false) (v3:iV (IntKind.i64.wrap (h*2 ^ (min (32:Int).toNat IntKind.i64.bits)))=iV hh) (v4:iV (bits .and .i64 s1 4294967295)=iV l) (v5:iV (IntKind.i64.wrap (hh+l))=iV r) :
 Pure Tryz.prog 90 #[.agg #[iV s0,iV s1]] (.tuple #[iV r,.bool true]):=
 qac (args:=[.agg #[iV s0,iV s1]]) 200 [.r (iV c),Re v2,.t false,.t false,.r (iV hh),Re v4,Re v5]
  (Ai rfl (Ai nz (Ai v1 (Ai v2 (Ai t1 (Ai t2 (Ai nz (Ai v3 (Ai v4 (Ai v5 tI)))))))))) (by kernel_rfl)
theorem qt4 {pi pa pb n d rn rd x0 x1 y0 y1 s0 s1 r:Int} (c1:Pure Tryz.prog 87 #[iV pb,iV d] (.tuple #[qaa rn rd,iV 0])) (c2:Pure Tryz.prog 89 #[iV rd] (.agg #[iV x0,iV x1])) (c3:Pure Tryz.prog 89 #[iV n] (.agg #[iV y0,iV y1])) (c4:Pure Tryz.prog 88 #[iV pa,.agg #[iV x0,iV x1],iV rn,.agg #[iV y0,iV y1]] (.agg #[iV s0,iV s1])) (c5:Pure Tryz.prog 90 #[.agg #[iV s0,iV s1]] (.tuple #[iV r,.bool false])) :
 Pure Tryz.prog 62 #[qab pi pa pb,qaa n d] (.tuple #[qaa 0 0,iV 16]):=
 qac (args:=[qab pi pa pb,qaa n d]) 400 [Rf c1,Rf c2,Rf c3,Rf c4,Rf c5,.k]
  (Ai rfl (Ai c1 (Ai c2 (Ai c3 (Ai c4 (Ai c5 tI)))))) (by kernel_rfl)
theorem qtW {pi pa pb n d rn rd x0 x1 y0 y1 s0 s1 r N D E:Int} (c1:Pure Tryz.prog 87 #[iV pb,iV d] (.tuple #[qaa rn rd,iV 0])) (c2:Pure Tryz.prog 89 #[iV rd] (.agg #[iV x0,iV x1])) (c3:Pure Tryz.prog 89 #[iV n] (.agg #[iV y0,iV y1])) (c4:Pure Tryz.prog 88 #[iV pa,.agg #[iV x0,iV x1],iV rn,.agg #[iV y0,iV y1]] (.agg #[iV s0,iV s1])) (c5:Pure Tryz.prog 90 #[.agg #[iV s0,iV s1]] (.tuple #[iV r,.bool true])) (c6:Pure Tryz.prog 87 #[iV r,iV rd] (.tuple #[qaa N D,iV E])) :
 Pure Tryz.prog 62 #[qab pi pa pb,qaa n d] (.tuple #[qaa N D,iV E]):=
 qac (args:=[qab pi pa pb,qaa n d]) 400 [Rf c1,Rf c2,Rf c3,Rf c4,Rf c5,.k,Rf c6]
  (Ai rfl (Ai c1 (Ai c2 (Ai c3 (Ai c4 (Ai c5 (Ai c6 tI))))))) (by kernel_rfl)
theorem qyQ {pi pa pb n d N D E:Int} (c1:Pure Tryz.prog 60 #[qab pi pa pb] (iV 0)) (c2:Pure Tryz.prog 61 #[qaa n d] (iV 0)) (c3:Pure Tryz.prog 62 #[qab pi pa pb,qaa n d] (.tuple #[qaa N D,iV E])) :
 Pure Tryz.prog 37 #[qab pi pa pb,qaa n d] (.tuple #[qaa N D,iV E]):=
 qac (args:=[qab pi pa pb,qaa n d]) 200 [Rf c1,Rf c1,.k,.k,.k,.k,.k,.k,.k,.k,.k,Rf c3]
  (Ai rfl (Ai c1 (Ai c2 (Ai c3 tI)))) (by kernel_rfl)
end Go.Proofs.YtleaeldgaflmkaaGreat

namespace Go.Proofs.YtleaeldgaflmkaaGreat
set_option maxRecDepth 100000
open Go.RowKit
def ziV (l:List Int):List Value:=l.map fun x=>iV x
abbrev zrI (l:List Int):SV:=.row 3 1 l.length (ziV l)
theorem qAr {l:List Int} {k:Nat} {x:Int} (h:l[k]?=some x):qes (ziV l) (0*1+k*1) [iV x]:=by
 intro j v hj
 match j,hj with
 | 0,hj=>cases hj;simp[ziV,h]
 | j+1,hj=>simp at hj
def qgh:List Bool→List Int→Option (List Bool)
 | g,[]=>some g
 | g,x::r=>if 0≤x∧x<(g.length:Int)∧g[x.toNat]?=some true then qgh (g.set x.toNat false) r else none
structure Vd (u:List Int) (b:List Bool) (f:List Int):Prop where
 pos:1≤u.length
 le:u.length≤200
 len:b.length=u.length
 use:∀ (k:Nat) (x:Int) (c:Bool),u[k]?=some x→b[k]?=some c→(if c=true then 1 else 0)≤x∧x≤1000000
 rng:∀ x∈f,0≤x∧x<(u.length:Int)
 nod:f.Nodup
 part:∀ (k:Nat) (c:Bool),b[k]?=some c→(c=false↔(k:Int)∈f)
theorem qe5:∀ {f:List Int} {g g':List Bool},qgh g f=some g'→(∀ x∈f,0≤x∧x<(g.length:Int)∧g[x.toNat]?=some true)∧f.Nodup∧∀ k:Nat,g'[k]?=if (k:Int)∈f then some false else g[k]?
 | [],g,g',h=>by cases h;exact⟨by simp,by simp,by simp⟩
 | x::r,g,g',h=>by
  unfold qgh at h
  split at h
  ·rename_i hx
   obtain⟨h1,h2,h3⟩:=qe5 h
   have hn:x∉r:=fun hm=>by
    have:=(h1 x hm).2.2
    rw[List.getElem?_set] at this
    rw[if_pos rfl] at this
    split at this<;>cases this
   refine⟨fun y hy=>?_,List.nodup_cons.2 ⟨hn,h2⟩,fun k=>?_⟩
   ·rcases List.mem_cons.1 hy with rfl | hy
    ·exact hx
    ·obtain⟨a1,a2,a3⟩:=h1 y hy
     rw[List.length_set] at a2
     refine⟨a1,a2,?_⟩
     rw[List.getElem?_set] at a3
     split at a3
     ·split at a3<;>cases a3
     ·exact a3
   ·rw[h3]
    by_cases hk:(k:Int)∈r
    ·rw[if_pos hk,if_pos (List.mem_cons_of_mem _ hk)]
    ·rw[if_neg hk,List.getElem?_set]
     by_cases e:(k:Int)=x
     ·rw[if_pos (show x.toNat=k by omega),if_pos (by omega),if_pos (by rw[e];exact List.mem_cons_self)]
     ·rw[if_neg (show ¬ x.toNat=k by omega),if_neg (fun hm=>by rcases List.mem_cons.1 hm with h | h;exact e h;exact hk h)]
  ·cases h
theorem qgg:∀ {f:List Int} {g:List Bool},(∀ x∈f,0≤x∧x<(g.length:Int)∧g[x.toNat]?=some true)→f.Nodup→∃ g',qgh g f=some g'
 | [],g,_,_=>⟨g,rfl⟩
 | x::r,g,h,hn=>by
  obtain⟨h1,h2⟩:=List.nodup_cons.1 hn
  unfold qgh
  rw[if_pos (h x List.mem_cons_self)]
  refine qgg (fun y hy=>?_) h2
  obtain⟨a1,a2,a3⟩:=h y (List.mem_cons_of_mem _ hy)
  refine⟨a1,by rw[List.length_set];exact a2,?_⟩
  rw[List.getElem?_set,if_neg]
  ·exact a3
  ·intro e
   have hx:=(h x List.mem_cons_self).1
   have:x=y:=by omega
   subst this
   exact h1 hy
def qs8 (b:List Bool) (f:List Int):Bool:=match qgh (b.map not) f with
 | some g=>!g.contains true
 | none=>false
def qzw (u:List Int) (b:List Bool):Bool:=(List.range b.length).all fun k=>match u[k]?,b[k]? with
 | some x,some c=>decide ((if c=true then 1 else 0)≤x)&&decide (x≤1000000)
 | _,_=>false
def qrC (u:List Int) (b:List Bool) (f:List Int):Bool:=decide (1≤u.length)&&decide (u.length≤200)&&decide (b.length=u.length)&&qzw u b&&qs8 b f
theorem qj3 {u:List Int} {b:List Bool} (h:b.length=u.length):qzw u b=true↔∀ (k:Nat) (x:Int) (c:Bool),u[k]?=some x→b[k]?=some c→(if c=true then 1 else 0)≤x∧x≤1000000:=by
 unfold qzw
 rw[List.all_eq_true]
 constructor
 ·intro h1 k x c hx hc
  have hk:k<b.length:=(List.getElem?_eq_some_iff.1 hc).1
  have:=h1 k (List.mem_range.2 hk)
  rw[hx,hc] at this
  simpa using this
 ·intro h1 k hk
  have hk':=List.mem_range.1 hk
  rw[List.getElem?_eq_getElem (by omega:k<u.length),List.getElem?_eq_getElem hk']
  simpa using h1 k _ _ (List.getElem?_eq_getElem (by omega:k<u.length)) (List.getElem?_eq_getElem hk')
theorem qhW {b:List Bool} {f:List Int}:qs8 b f=true↔(∀ x∈f,0≤x∧x<(b.length:Int))∧f.Nodup∧∀ (k:Nat) (c:Bool),b[k]?=some c→(c=false↔(k:Int)∈f):=by
 unfold qs8
 constructor
 ·intro h
  split at h
  ·rename_i g hg
   obtain⟨h1,h2,h3⟩:=qe5 hg
   refine⟨fun x hx=>?_,h2,fun k c hc=>⟨fun e=>?_,fun hm=>?_⟩⟩
   ·obtain⟨a1,a2,_⟩:=h1 x hx
    exact⟨a1,by simpa using a2⟩
   ·subst e
    by_cases hm:(k:Int)∈f
    ·exact hm
    ·have:=h3 k
     rw[if_neg hm,List.getElem?_map,hc] at this
     have hin:true∈g:=List.mem_of_getElem? this
     simp[hin] at h
   ·obtain⟨_,_,a3⟩:=h1 _ hm
    rw[Int.toNat_natCast,List.getElem?_map,hc] at a3
    simpa using a3
  ·cases h
 ·rintro⟨h1,h2,h3⟩
  obtain⟨g,hg⟩:=qgg (g:=b.map not) (f:=f) (fun x hx=>by
   obtain⟨a1,a2⟩:=h1 x hx
   have hk:x.toNat<b.length:=by omega
   refine⟨a1,by simpa using a2,?_⟩
   rw[List.getElem?_map,List.getElem?_eq_getElem hk]
   have:=(h3 x.toNat _ (List.getElem?_eq_getElem hk)).2 (by rw[Int.toNat_of_nonneg a1];exact hx)
   rw[this];rfl) h2
  rw[hg]
  obtain⟨_,_,h6⟩:=qe5 hg
  have:true∉g:=by
   intro hm
   obtain⟨k,hk⟩:=List.mem_iff_getElem?.1 hm
   have e:=h6 k
   rw[hk] at e
   split at e
   ·cases e
   ·rename_i hn
    rw[List.getElem?_map] at e
    cases hb:b[k]? with
    | none=>rw[hb] at e;cases e
    | some c=>
     rw[hb] at e
     cases c
     ·exact hn ((h3 k _ hb).1 rfl)
     ·cases e
  simp[this]
theorem que {u:List Int} {b:List Bool} {f:List Int}:qrC u b f=true↔Vd u b f:=by
 unfold qrC
 simp only[Bool.and_eq_true,decide_eq_true_eq]
 constructor
 ·rintro⟨⟨⟨⟨h1,h2⟩,h3⟩,h4⟩,h5⟩
  obtain⟨a1,a2,a3⟩:=qhW.1 h5
  exact⟨h1,h2,h3,(qj3 h3).1 h4,by rw[← h3];exact a1,a2,a3⟩
 ·intro h
  exact⟨⟨⟨⟨h.pos,h.le⟩,h.len⟩,(qj3 h.len).2 h.use⟩,qhW.2 ⟨by rw[h.len];exact h.rng,h.nod,h.part⟩⟩
end Go.Proofs.YtleaeldgaflmkaaGreat
