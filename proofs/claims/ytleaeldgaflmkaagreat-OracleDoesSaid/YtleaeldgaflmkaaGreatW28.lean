/-
  Joined: Vk, Cp, Cs, Pl, Rv. Conditions: none.
-/
import Derived.Test.YtleaeldgaflmkaaGreatSxP
import Derived.Test.YtleaeldgaflmkaaGreatW25
import Derived.Test.YtleaeldgaflmkaaGreatW26
import Derived.Laws.Bits64b
namespace Go.Proofs.YtleaeldgaflmkaaGreat
set_option maxRecDepth 100000
open Go.RowKit
section
variable {P:Program} {f:FuncId} {k m:Nat} {args:List SV} {pre post:List (Nat×Nat×SV)} {x x':SV}
theorem qeB (h:FnL P f k args pre x m post) (hx:∀ (β:Bl) (v:Value),x.is β v→x'.is β v):FnL P f k args pre x' m post:=fun w β us hH hd hi=>
 (h w β us hH hd hi).mono fun _ _ ⟨v,β',he,hle,hv,hh,hd'⟩=>⟨v,β',he,hle,hx β' v hv,hh,hd'⟩
theorem qui {m':Nat} (hm:m≤m') (h:FnL P f k args pre x m post):FnL P f k args pre x m' post:=fun w β us hH hd hi=>
 (h w β us hH hd hi).mono fun _ _ ⟨v,β',he,hle,hv,hh,hd'⟩=>⟨v,β',he,hle,hv,hh,fun b hb=>hd' b (by omega)⟩
theorem qsJ {j es n:Nat} {e:TypeId} {xs:List Value} (h:FnL P f k args pre x m post) (hj:k≤j) (hl:qae post j 0=some (.row e es n xs))
 (hx:∀ (β β':Bl) (v u:Value),β.le β'→β.g j=some u→(S0.dv es n (xs.map .v)).is β' u→x.is β v→x'.is β' v):FnL P f k args pre x' m (qaS (some j) post):=fun w β us hH hd hi=>
 (h w β us hH hd hi).mono fun ex w' ⟨v,β',he,hle,hv,hh,hd'⟩=>by
  obtain⟨u,g1,g2⟩:=hh.rows _ _ _ _ _ _ hl
  obtain⟨hle2,HI⟩:=hh.ice (m:=j) (k:=u.ownBlock) (fun i hi=>⟨(qal (g2.own hj) i hi).1,(qal (g2.own hj) i hi).2,hh.fz.row _ _ _ _ _ hl rfl hj g1 hi⟩) (fun c o s r hc hne hr e=>g2.apart hj c r hr e) (fun c o s u' hc hs hne hlc hu' i hi e=>hh.rinj0 _ _ _ _ _ _ u u' hl hc rfl hs hj hlc (fun e=>hne e.symm) g1 hu' i e hi)
  refine⟨v,β'.ice u.ownBlock w',he,Bl.le_trans hle hle2,hx β' _ v u hle2 g1 ?_ hv,HI,hd'⟩
  exact qdr ⟨g2.rd,g2.one⟩ (.plain _) fun _ i hi=>by show (if u.ownBlock=some i then w'.heap[i]? else β'.h i)=_;rw[if_pos hi]
theorem qis {h:Nat→Option Obj} {es:Nat}:DenH h (.sl es 0 []) (.slice none 0 0):=DenH.sl (xs:=[]) (by simp) (Nat.le_refl _) (fun _ hh=>by cases hh) (fun j v hj=>by simp at hj) .nil
end
end Go.Proofs.YtleaeldgaflmkaaGreat

namespace Go.Proofs.YtleaeldgaflmkaaGreat
set_option maxRecDepth 100000
open Go.RowKit
abbrev qab (n a b:Int):Value:=.agg #[iV n,iV a,iV b]
theorem qyg {pi pa pb:Int} (i0:decide (pi<0)=true) :
 Pure Tryz.prog 60 #[qab pi pa pb] (iV 8):=
 qac (args:=[qab pi pa pb]) 200 [.t true]
  (Ai rfl (Ai i0 tI)) (by kernel_rfl)
theorem qxM {pi pa pb:Int} (i0:decide (pi<0)=false) (i1:decide (pi>65535)=true) :
 Pure Tryz.prog 60 #[qab pi pa pb] (iV 8):=
 qac (args:=[qab pi pa pb]) 200 [.t false,.t true]
  (Ai rfl (Ai i0 (Ai i1 tI))) (by kernel_rfl)
theorem qyW {pi pa pb:Int} (i0:decide (pi<0)=false) (i1:decide (pi>65535)=false) (la:decide (-1048576≤pa)=false) :
 Pure Tryz.prog 60 #[qab pi pa pb] (iV 8):=
 qac (args:=[qab pi pa pb]) 200 [.t false,.t false,.k,.t false,.k]
  (Ai rfl (Ai i0 (Ai i1 (Ai la tI)))) (by kernel_rfl)
theorem qxd {pi pa pb:Int} (i0:decide (pi<0)=false) (i1:decide (pi>65535)=false) (la:decide (-1048576≤pa)=true) (ha:decide (pa≤1048576)=false) :
 Pure Tryz.prog 60 #[qab pi pa pb] (iV 8):=
 qac (args:=[qab pi pa pb]) 200 [.t false,.t false,.k,.t true,.t false,.k]
  (Ai rfl (Ai i0 (Ai i1 (Ai la (Ai ha tI))))) (by kernel_rfl)
theorem qxL {pi pa pb:Int} (i0:decide (pi<0)=false) (i1:decide (pi>65535)=false) (la:decide (-1048576≤pa)=true) (ha:decide (pa≤1048576)=true) (lb:decide (-1048576≤pb)=false) :
 Pure Tryz.prog 60 #[qab pi pa pb] (iV 8):=
 qac (args:=[qab pi pa pb]) 200 [.t false,.t false,.k,.t true,.t true,.k,.k,.t false,.k]
  (Ai rfl (Ai i0 (Ai i1 (Ai la (Ai ha (Ai lb tI)))))) (by kernel_rfl)
theorem qxs {pi pa pb:Int} (i0:decide (pi<0)=false) (i1:decide (pi>65535)=false) (la:decide (-1048576≤pa)=true) (ha:decide (pa≤1048576)=true) (lb:decide (-1048576≤pb)=true) (hb:decide (pb≤1048576)=false) :
 Pure Tryz.prog 60 #[qab pi pa pb] (iV 8):=
 qac (args:=[qab pi pa pb]) 200 [.t false,.t false,.k,.t true,.t true,.k,.k,.t true,.t false,.k]
  (Ai rfl (Ai i0 (Ai i1 (Ai la (Ai ha (Ai lb (Ai hb tI))))))) (by kernel_rfl)
theorem qyk {pi pa pb:Int} (i0:decide (pi<0)=false) (i1:decide (pi>65535)=false) (la:decide (-1048576≤pa)=true) (ha:decide (pa≤1048576)=true) (lb:decide (-1048576≤pb)=true) (hb:decide (pb≤1048576)=true) :
 Pure Tryz.prog 60 #[qab pi pa pb] (iV 0):=
 qac (args:=[qab pi pa pb]) 200 [.t false,.t false,.k,.t true,.t true,.k,.k,.t true,.t true,.k]
  (Ai rfl (Ai i0 (Ai i1 (Ai la (Ai ha (Ai lb (Ai hb tI))))))) (by kernel_rfl)
theorem qy2 {pi pa pb:Int} (i0:decide (pi<0)=true) :
 Pure Tryz.prog 30 #[qab pi pa pb] (iV 8):=
 qac (args:=[qab pi pa pb]) 200 [.t true]
  (Ai rfl (Ai i0 tI)) (by kernel_rfl)
theorem qx4 {pi pa pb:Int} (i0:decide (pi<0)=false) (i1:decide (pi>65535)=true) :
 Pure Tryz.prog 30 #[qab pi pa pb] (iV 8):=
 qac (args:=[qab pi pa pb]) 200 [.t false,.t true]
  (Ai rfl (Ai i0 (Ai i1 tI))) (by kernel_rfl)
theorem qyc {pi pa pb:Int} (i0:decide (pi<0)=false) (i1:decide (pi>65535)=false) (la:decide (pa < -1048576)=true) :
 Pure Tryz.prog 30 #[qab pi pa pb] (iV 8):=
 qac (args:=[qab pi pa pb]) 200 [.t false,.t false,.t true]
  (Ai rfl (Ai i0 (Ai i1 (Ai la tI)))) (by kernel_rfl)
theorem qyF {pi pa pb:Int} (i0:decide (pi<0)=false) (i1:decide (pi>65535)=false) (la:decide (pa < -1048576)=false) (ha:decide (pa>1048576)=true) :
 Pure Tryz.prog 30 #[qab pi pa pb] (iV 8):=
 qac (args:=[qab pi pa pb]) 200 [.t false,.t false,.t false,.t true]
  (Ai rfl (Ai i0 (Ai i1 (Ai la (Ai ha tI))))) (by kernel_rfl)
theorem qxh {pi pa pb:Int} (i0:decide (pi<0)=false) (i1:decide (pi>65535)=false) (la:decide (pa < -1048576)=false) (ha:decide (pa>1048576)=false) (lb:decide (pb < -1048576)=true) :
 Pure Tryz.prog 30 #[qab pi pa pb] (iV 8):=
 qac (args:=[qab pi pa pb]) 200 [.t false,.t false,.t false,.t false,.t true]
  (Ai rfl (Ai i0 (Ai i1 (Ai la (Ai ha (Ai lb tI)))))) (by kernel_rfl)
theorem qyz {pi pa pb:Int} (i0:decide (pi<0)=false) (i1:decide (pi>65535)=false) (la:decide (pa < -1048576)=false) (ha:decide (pa>1048576)=false) (lb:decide (pb < -1048576)=false) (hb:decide (pb>1048576)=true) :
 Pure Tryz.prog 30 #[qab pi pa pb] (iV 8):=
 qac (args:=[qab pi pa pb]) 200 [.t false,.t false,.t false,.t false,.t false,.t true]
  (Ai rfl (Ai i0 (Ai i1 (Ai la (Ai ha (Ai lb (Ai hb tI))))))) (by kernel_rfl)
theorem qwn {pi pa pb:Int} (i0:decide (pi<0)=false) (i1:decide (pi>65535)=false) (la:decide (pa < -1048576)=false) (ha:decide (pa>1048576)=false) (lb:decide (pb < -1048576)=false) (hb:decide (pb>1048576)=false) :
 Pure Tryz.prog 30 #[qab pi pa pb] (iV 0):=
 qac (args:=[qab pi pa pb]) 200 [.t false,.t false,.t false,.t false,.t false,.t false]
  (Ai rfl (Ai i0 (Ai i1 (Ai la (Ai ha (Ai lb (Ai hb tI))))))) (by kernel_rfl)
theorem qhh {pi pa pb qi qa qb x y m n:Int} (v1:iV (IntKind.i64.wrap (qa-pa))=iV x) (v2:iV (IntKind.i64.wrap (pb-qb))=iV y) (c1:Pure Tryz.prog 87 #[iV x,iV y] (.tuple #[qaa m n,iV 0])) :
 Pure Tryz.prog 133 #[qab pi pa pb,qab qi qa qb] (qaa m n):=
 qac (args:=[qab pi pa pb,qab qi qa qb]) 200 [Re v1,Re v2,Rf c1]
  (Ai rfl (Ai v1 (Ai v2 (Ai c1 tI)))) (by kernel_rfl)
abbrev qqA (d:Int) (n:Int):Prop:=Pure Tryz.prog 61 #[qaa n d] (iV 0)
abbrev qq0 (pa:Int) (pb:Int) (pi:Int) (qa:Int) (qb:Int) (qi:Int):Prop:=Pure Tryz.prog 110 #[qab pi pa pb,qab qi qa qb] (iV 0)
abbrev qqF (pa:Int) (pb:Int) (pi:Int):Prop:=Pure Tryz.prog 60 #[qab pi pa pb] (iV 0)
abbrev qqO (qa:Int) (qb:Int) (qi:Int):Prop:=Pure Tryz.prog 60 #[qab qi qa qb] (iV 0)
theorem qpG {pi pa pb qi qa qb n d:Int} (cp:qqF pa pb pi) (cq:qqO qa qb qi) (ct:qqA d n) (ci:qq0 pa pb pi qa qb qi) (w:(pa==qa&&(pb==qb&&true))=true) (r:decide (pi<qi)=true) :
 Pure Tryz.prog 81 #[qab pi pa pb,qab qi qa qb,qaa n d] (.tuple #[.bool true,iV 0]):=
 qac (args:=[qab pi pa pb,qab qi qa qb,qaa n d]) 200 [Rf cp,Rf cp,Rf cp,Rf cp,.k,.k,.k,.k,.k,.k,.k,.k,.k,.k,.k,.k,.k,.k,.k,.k,.k,.k,.t true,.k,.t true]
  (Ai rfl (Ai cp (Ai cq (Ai ct (Ai ci (Ai w (Ai r tI))))))) (by kernel_rfl)
theorem qp3 {pi pa pb qi qa qb n d:Int} (cp:qqF pa pb pi) (cq:qqO qa qb qi) (ct:qqA d n) (ci:qq0 pa pb pi qa qb qi) (w:(pa==qa&&(pb==qb&&true))=false) (bb:(pb==qb)=true) (r:decide (pa>qa)=true) :
 Pure Tryz.prog 81 #[qab pi pa pb,qab qi qa qb,qaa n d] (.tuple #[.bool true,iV 0]):=
 qac (args:=[qab pi pa pb,qab qi qa qb,qaa n d]) 200 [Rf cp,Rf cp,Rf cp,Rf cp,.k,.k,.k,.k,.k,.k,.k,.k,.k,.k,.k,.k,.k,.k,.k,.k,.k,.k,.t false,.t true,.k,.t true]
  (Ai rfl (Ai cp (Ai cq (Ai ct (Ai ci (Ai w (Ai bb (Ai r tI)))))))) (by kernel_rfl)
theorem qpF {pi pa pb qi qa qb n d:Int} (cp:qqF pa pb pi) (cq:qqO qa qb qi) (ct:qqA d n) (ci:qq0 pa pb pi qa qb qi) (w:(pa==qa&&(pb==qb&&true))=true) (r:decide (pi<qi)=false) :
 Pure Tryz.prog 81 #[qab pi pa pb,qab qi qa qb,qaa n d] (.tuple #[.bool false,iV 0]):=
 qac (args:=[qab pi pa pb,qab qi qa qb,qaa n d]) 200 [Rf cp,Rf cp,Rf cp,Rf cp,.k,.k,.k,.k,.k,.k,.k,.k,.k,.k,.k,.k,.k,.k,.k,.k,.k,.k,.t true,.k,.t false]
  (Ai rfl (Ai cp (Ai cq (Ai ct (Ai ci (Ai w (Ai r tI))))))) (by kernel_rfl)
theorem qp1 {pi pa pb qi qa qb n d:Int} (cp:qqF pa pb pi) (cq:qqO qa qb qi) (ct:qqA d n) (ci:qq0 pa pb pi qa qb qi) (w:(pa==qa&&(pb==qb&&true))=false) (bb:(pb==qb)=true) (r:decide (pa>qa)=false) :
 Pure Tryz.prog 81 #[qab pi pa pb,qab qi qa qb,qaa n d] (.tuple #[.bool false,iV 0]):=
 qac (args:=[qab pi pa pb,qab qi qa qb,qaa n d]) 200 [Rf cp,Rf cp,Rf cp,Rf cp,.k,.k,.k,.k,.k,.k,.k,.k,.k,.k,.k,.k,.k,.k,.k,.k,.k,.k,.t false,.t true,.k,.t false]
  (Ai rfl (Ai cp (Ai cq (Ai ct (Ai ci (Ai w (Ai bb (Ai r tI)))))))) (by kernel_rfl)
abbrev qwS (d:Int) (k:Int) (md:Int) (mn:Int) (n:Int):Prop:=Pure Tryz.prog 102 #[qaa n d,qaa mn md] (.tuple #[iV k,iV 0])
theorem qnA {pi pa pb qi qa qb n d mn md k:Int} (cp:qqF pa pb pi) (cq:qqO qa qb qi) (ct:qqA d n) (ci:qq0 pa pb pi qa qb qi) (w:(pa==qa&&(pb==qb&&true))=false) (bb:(pb==qb)=false) (cm:Pure Tryz.prog 133 #[qab pi pa pb,qab qi qa qb] (qaa mn md)) (cc:qwS d k md mn n) (g1:decide (k≥0)=true) (g2:decide (pb>qb)=true) :
 Pure Tryz.prog 81 #[qab pi pa pb,qab qi qa qb,qaa n d] (.tuple #[.bool true,iV 0]):=
 qac (args:=[qab pi pa pb,qab qi qa qb,qaa n d]) 200 [Rf cp,Rf cp,Rf cp,Rf cp,.k,.k,.k,.k,.k,.k,.k,.k,.k,.k,.k,.k,.k,.k,.k,.k,.k,.k,.t false,.t false,Rf cm,.k,Rf cc,.t true,.t true]
  (Ai rfl (Ai cp (Ai cq (Ai ct (Ai ci (Ai w (Ai bb (Ai cm (Ai cc (Ai g1 (Ai g2 tI))))))))))) (by kernel_rfl)
theorem qnV {pi pa pb qi qa qb n d mn md k:Int} (cp:qqF pa pb pi) (cq:qqO qa qb qi) (ct:qqA d n) (ci:qq0 pa pb pi qa qb qi) (w:(pa==qa&&(pb==qb&&true))=false) (bb:(pb==qb)=false) (cm:Pure Tryz.prog 133 #[qab pi pa pb,qab qi qa qb] (qaa mn md)) (cc:qwS d k md mn n) (g1:decide (k≥0)=true) (g2:decide (pb>qb)=false) :
 Pure Tryz.prog 81 #[qab pi pa pb,qab qi qa qb,qaa n d] (.tuple #[.bool false,iV 0]):=
 qac (args:=[qab pi pa pb,qab qi qa qb,qaa n d]) 200 [Rf cp,Rf cp,Rf cp,Rf cp,.k,.k,.k,.k,.k,.k,.k,.k,.k,.k,.k,.k,.k,.k,.k,.k,.k,.k,.t false,.t false,Rf cm,.k,Rf cc,.t true,.t false]
  (Ai rfl (Ai cp (Ai cq (Ai ct (Ai ci (Ai w (Ai bb (Ai cm (Ai cc (Ai g1 (Ai g2 tI))))))))))) (by kernel_rfl)
theorem qmR {pi pa pb qi qa qb n d mn md k:Int} (cp:qqF pa pb pi) (cq:qqO qa qb qi) (ct:qqA d n) (ci:qq0 pa pb pi qa qb qi) (w:(pa==qa&&(pb==qb&&true))=false) (bb:(pb==qb)=false) (cm:Pure Tryz.prog 133 #[qab pi pa pb,qab qi qa qb] (qaa mn md)) (cc:qwS d k md mn n) (g1:decide (k≥0)=false) (g2:decide (pb>qb)=true) :
 Pure Tryz.prog 81 #[qab pi pa pb,qab qi qa qb,qaa n d] (.tuple #[.bool false,iV 0]):=
 qac (args:=[qab pi pa pb,qab qi qa qb,qaa n d]) 200 [Rf cp,Rf cp,Rf cp,Rf cp,.k,.k,.k,.k,.k,.k,.k,.k,.k,.k,.k,.k,.k,.k,.k,.k,.k,.k,.t false,.t false,Rf cm,.k,Rf cc,.t false,.t true]
  (Ai rfl (Ai cp (Ai cq (Ai ct (Ai ci (Ai w (Ai bb (Ai cm (Ai cc (Ai g1 (Ai g2 tI))))))))))) (by kernel_rfl)
theorem qnB {pi pa pb qi qa qb n d mn md k:Int} (cp:qqF pa pb pi) (cq:qqO qa qb qi) (ct:qqA d n) (ci:qq0 pa pb pi qa qb qi) (w:(pa==qa&&(pb==qb&&true))=false) (bb:(pb==qb)=false) (cm:Pure Tryz.prog 133 #[qab pi pa pb,qab qi qa qb] (qaa mn md)) (cc:qwS d k md mn n) (g1:decide (k≥0)=false) (g2:decide (pb>qb)=false) :
 Pure Tryz.prog 81 #[qab pi pa pb,qab qi qa qb,qaa n d] (.tuple #[.bool true,iV 0]):=
 qac (args:=[qab pi pa pb,qab qi qa qb,qaa n d]) 200 [Rf cp,Rf cp,Rf cp,Rf cp,.k,.k,.k,.k,.k,.k,.k,.k,.k,.k,.k,.k,.k,.k,.k,.k,.k,.k,.t false,.t false,Rf cm,.k,Rf cc,.t false,.t false]
  (Ai rfl (Ai cp (Ai cq (Ai ct (Ai ci (Ai w (Ai bb (Ai cm (Ai cc (Ai g1 (Ai g2 tI))))))))))) (by kernel_rfl)
theorem qun {pi pa pb qi qa qb:Int} (ij:(pi==qi)=false) :
 Pure Tryz.prog 110 #[qab pi pa pb,qab qi qa qb] (iV 0):=
 qac (args:=[qab pi pa pb,qab qi qa qb]) 200 [.t false]
  (Ai rfl (Ai ij tI)) (by kernel_rfl)
end Go.Proofs.YtleaeldgaflmkaaGreat

namespace Go.Proofs.YtleaeldgaflmkaaGreat
set_option maxRecDepth 100000
open Go.RowKit
theorem qmQ {pi pa pb qi qa qb:Int} (cp:Pure Tryz.prog 60 #[qab pi pa pb] (iV 0)) (cq:Pure Tryz.prog 60 #[qab qi qa qb] (iV 0)) (ci:Pure Tryz.prog 110 #[qab pi pa pb,qab qi qa qb] (iV 0)) (bb:(pb==qb)=true) :
 Pure Tryz.prog 180 #[qab pi pa pb,qab qi qa qb] (.tuple #[qaa 0 0,iV 6]):=
 qac (args:=[qab pi pa pb,qab qi qa qb]) 200 [Rf cp,Rf cp,Rf cp,.k,.k,.k,.k,.k,.k,.k,.k,.k,.k,.k,.k,.t true]
  (Ai rfl (Ai cp (Ai cq (Ai ci (Ai bb tI))))) (by kernel_rfl)
theorem ql4 {pi pa pb qi qa qb m k:Int} (cp:Pure Tryz.prog 60 #[qab pi pa pb] (iV 0)) (cq:Pure Tryz.prog 60 #[qab qi qa qb] (iV 0)) (ci:Pure Tryz.prog 110 #[qab pi pa pb,qab qi qa qb] (iV 0)) (bb:(pb==qb)=false) (cm:Pure Tryz.prog 133 #[qab pi pa pb,qab qi qa qb] (qaa m k)) :
 Pure Tryz.prog 180 #[qab pi pa pb,qab qi qa qb] (.tuple #[qaa m k,iV 0]):=
 qac (args:=[qab pi pa pb,qab qi qa qb]) 200 [Rf cp,Rf cp,Rf cp,.k,.k,.k,.k,.k,.k,.k,.k,.k,.k,.k,.k,.t false,Rf cm]
  (Ai rfl (Ai cp (Ai cq (Ai ci (Ai bb (Ai cm tI)))))) (by kernel_rfl)
end Go.Proofs.YtleaeldgaflmkaaGreat

namespace Go.Proofs.YtleaeldgaflmkaaGreat
set_option maxRecDepth 100000
open Go.RowKit
theorem qkU {n h l:Int} (nz:¬ (32:Int)<0) (v1:iV (n.fdiv (2 ^ (min (32:Int).toNat IntKind.i64.bits)))=iV h) (v2:iV (bits .and .i64 n 4294967295)=iV l) :
 Pure Tryz.prog 89 #[iV n] (.agg #[iV h,iV l]):=
 qac (args:=[iV n]) 200 [.r (iV h),Re v2]
  (Ai rfl (Ai nz (Ai v1 (Ai v2 tI)))) (by kernel_rfl)
theorem qnk {a b x0 x1 y0 y1 p0 q0 s0 p1 q1 s1:Int} (m0:iV (IntKind.i64.wrap (a*x0))=iV p0) (n0:iV (IntKind.i64.wrap (b*y0))=iV q0) (s0e:iV (IntKind.i64.wrap (p0+q0))=iV s0) (m1:iV (IntKind.i64.wrap (a*x1))=iV p1) (n1:iV (IntKind.i64.wrap (b*y1))=iV q1) (s1e:iV (IntKind.i64.wrap (p1+q1))=iV s1) :
 Pure Tryz.prog 88 #[iV a,.agg #[iV x0,iV x1],iV b,.agg #[iV y0,iV y1]] (.agg #[iV s0,iV s1]):=
 qac (args:=[iV a,.agg #[iV x0,iV x1],iV b,.agg #[iV y0,iV y1]]) 200 [.k,Re m0,Re n0,Re s0e,.k,.k,Re m1,Re n1,Re s1e,.k,.k]
  (Ai rfl (Ai m0 (Ai n0 (Ai s0e (Ai m1 (Ai n1 (Ai s1e tI))))))) (by kernel_rfl)
theorem ql6 {s0 s1 c h:Int} (nz:¬ (32:Int)<0) (v1:iV (s1.fdiv (2 ^ (min (32:Int).toNat IntKind.i64.bits)))=iV c) (v2:iV (IntKind.i64.wrap (s0+c))=iV h) (t1:decide (h < -2147483648)=true) :
 Pure Tryz.prog 90 #[.agg #[iV s0,iV s1]] (.tuple #[iV 0,.bool false]):=
 qac (args:=[.agg #[iV s0,iV s1]]) 200 [.r (iV c),Re v2,.t true]
  (Ai rfl (Ai nz (Ai v1 (Ai v2 (Ai t1 tI))))) (by kernel_rfl)
theorem ql2 {s0 s1 c h:Int} (nz:¬ (32:Int)<0) (v1:iV (s1.fdiv (2 ^ (min (32:Int).toNat IntKind.i64.bits)))=iV c) (v2:iV (IntKind.i64.wrap (s0+c))=iV h) (t1:decide (h < -2147483648)=false) (t2:decide (h>2147483647)=true) :
 Pure Tryz.prog 90 #[.agg #[iV s0,iV s1]] (.tuple #[iV 0,.bool false]):=
 qac (args:=[.agg #[iV s0,iV s1]]) 200 [.r (iV c),Re v2,.t false,.t true]
  (Ai rfl (Ai nz (Ai v1 (Ai v2 (Ai t1 (Ai t2 tI)))))) (by kernel_rfl)
theorem qk4 {s0 s1 c h hh l r:Int} (nz:¬ (32:Int)<0) (v1:iV (s1.fdiv (2 ^ (min (32:Int).toNat IntKind.i64.bits)))=iV c) (v2:iV (IntKind.i64.wrap (s0+c))=iV h) (t1:decide (h < -2147483648)=false) (t2:decide (h>2147483647)=false) (v3:iV (IntKind.i64.wrap (h*2 ^ (min (32:Int).toNat IntKind.i64.bits)))=iV hh) (v4:iV (bits .and .i64 s1 4294967295)=iV l) (v5:iV (IntKind.i64.wrap (hh+l))=iV r) :
 Pure Tryz.prog 90 #[.agg #[iV s0,iV s1]] (.tuple #[iV r,.bool true]):=
 qac (args:=[.agg #[iV s0,iV s1]]) 200 [.r (iV c),Re v2,.t false,.t false,.r (iV hh),Re v4,Re v5]
  (Ai rfl (Ai nz (Ai v1 (Ai v2 (Ai t1 (Ai t2 (Ai nz (Ai v3 (Ai v4 (Ai v5 tI)))))))))) (by kernel_rfl)
theorem qr3 {pi pa pb n d rn rd x0 x1 y0 y1 s0 s1 r:Int} (c1:Pure Tryz.prog 87 #[iV pb,iV d] (.tuple #[qaa rn rd,iV 0])) (c2:Pure Tryz.prog 89 #[iV rd] (.agg #[iV x0,iV x1])) (c3:Pure Tryz.prog 89 #[iV n] (.agg #[iV y0,iV y1])) (c4:Pure Tryz.prog 88 #[iV pa,.agg #[iV x0,iV x1],iV rn,.agg #[iV y0,iV y1]] (.agg #[iV s0,iV s1])) (c5:Pure Tryz.prog 90 #[.agg #[iV s0,iV s1]] (.tuple #[iV r,.bool false])) :
 Pure Tryz.prog 62 #[qab pi pa pb,qaa n d] (.tuple #[qaa 0 0,iV 16]):=
 qac (args:=[qab pi pa pb,qaa n d]) 400 [Rf c1,Rf c2,Rf c3,Rf c4,Rf c5,.k]
  (Ai rfl (Ai c1 (Ai c2 (Ai c3 (Ai c4 (Ai c5 tI)))))) (by kernel_rfl)
theorem qtB {pi pa pb n d rn rd x0 x1 y0 y1 s0 s1 r N D E:Int} (c1:Pure Tryz.prog 87 #[iV pb,iV d] (.tuple #[qaa rn rd,iV 0])) (c2:Pure Tryz.prog 89 #[iV rd] (.agg #[iV x0,iV x1])) (c3:Pure Tryz.prog 89 #[iV n] (.agg #[iV y0,iV y1])) (c4:Pure Tryz.prog 88 #[iV pa,.agg #[iV x0,iV x1],iV rn,.agg #[iV y0,iV y1]] (.agg #[iV s0,iV s1])) (c5:Pure Tryz.prog 90 #[.agg #[iV s0,iV s1]] (.tuple #[iV r,.bool true])) (c6:Pure Tryz.prog 87 #[iV r,iV rd] (.tuple #[qaa N D,iV E])) :
 Pure Tryz.prog 62 #[qab pi pa pb,qaa n d] (.tuple #[qaa N D,iV E]):=
 qac (args:=[qab pi pa pb,qaa n d]) 400 [Rf c1,Rf c2,Rf c3,Rf c4,Rf c5,.k,Rf c6]
  (Ai rfl (Ai c1 (Ai c2 (Ai c3 (Ai c4 (Ai c5 (Ai c6 tI))))))) (by kernel_rfl)
theorem qxg {pi pa pb n d N D E:Int} (c1:Pure Tryz.prog 60 #[qab pi pa pb] (iV 0)) (c2:Pure Tryz.prog 61 #[qaa n d] (iV 0)) (c3:Pure Tryz.prog 62 #[qab pi pa pb,qaa n d] (.tuple #[qaa N D,iV E])) :
 Pure Tryz.prog 37 #[qab pi pa pb,qaa n d] (.tuple #[qaa N D,iV E]):=
 qac (args:=[qab pi pa pb,qaa n d]) 200 [Rf c1,Rf c1,.k,.k,.k,.k,.k,.k,.k,.k,.k,Rf c3]
  (Ai rfl (Ai c1 (Ai c2 (Ai c3 tI)))) (by kernel_rfl)
end Go.Proofs.YtleaeldgaflmkaaGreat

namespace Go.Proofs.YtleaeldgaflmkaaGreat
set_option maxRecDepth 100000
open Go.RowKit
abbrev qap (s:Bool) (hi lo:Int):Value:=.agg #[.bool s,.int .u64 hi,.int .u64 lo]
noncomputable def qlb:Code:=qqv Tryz.prog 92 0
abbrev dvT (y r i:Int):List (Nat×SV):=[(1,.pv (.int .u64 y)),(2,.pp 0 0),(4,.pp 1 0),(6,.pp 2 0),(7,.pv (.int .u64 r)),(8,.pv (iV i))]
abbrev dvH (s:Bool) (hi lo H L:Int):List (Nat×Nat×SV):=[(0,0,.pv (.bool s)),(0,1,.pv (.int .u64 hi)),(0,2,.pv (.int .u64 lo)),(1,0,.pv (.bool false)),(1,1,.pv (.int .u64 0)),(1,2,.pv (.int .u64 0)),(2,0,.pv (.bool false)),(2,1,.pv (.int .u64 H)),(2,2,.pv (.int .u64 L))]
set_option maxHeartbeats 2000000 in
theorem qxX {y hi lo H L r i v1 v2 r2 r3 i1 j v3 v4 r4 m H1:Int} {s:Bool} {tm2:List (Nat×SV)} {hp2:List (Nat×Nat×SV)} (t0:decide (i≥0)=true) (n0:¬ i<0) (s1:Value.int .u64 (lo.fdiv (2 ^ (min i.toNat IntKind.u64.bits)))=.int .u64 v1) (a1:Value.int .u64 (bits .and .u64 v1 1)=.int .u64 v2) (t1:decide (i≥64)=true) (sj:iV (IntKind.i64.wrap (i-64))=iV j) (nj:¬ j<0) (s2:Value.int .u64 (hi.fdiv (2 ^ (min j.toNat IntKind.u64.bits)))=.int .u64 v3) (a2:Value.int .u64 (bits .and .u64 v3 1)=.int .u64 v4) (m1:Value.int .u64 (IntKind.u64.wrap (2*r))=.int .u64 r2) (p1:Value.int .u64 (IntKind.u64.wrap (r2+v4))=.int .u64 r3) (t2:decide (r3≥y)=true) (m2:Value.int .u64 (IntKind.u64.wrap (r3-y))=.int .u64 r4) (e1:Value.int .u64 (IntKind.u64.wrap (1*2 ^ (min j.toNat IntKind.u64.bits)))=.int .u64 m) (o1:Value.int .u64 (bits .or .u64 H m)=.int .u64 H1) (z1:iV (IntKind.i64.wrap (i-1))=iV i1)
 (k:RunsL Tryz.prog 0 0 qlb 54 3 (dvT y r4 i1) (dvH s hi lo H1 L) (.exit 0) tm2 hp2):RunsL Tryz.prog 0 0 qlb 54 3 (dvT y r i) (dvH s hi lo H L) (.exit 0) tm2 hp2:=
 RunsL.next [] 100 [.t true,Re s1,Re a1,.t true,Re sj,Re s2,Re a2,Re m1,Re p1,.t true,Re m2,.t true,Re sj,Re e1,Re o1,Re z1]
  (Ro (Ai t0 (Ai n0 (Ai s1 (Ai a1 (Ai t1 (Ai sj (Ai nj (Ai s2 (Ai a2 (Ai m1 (Ai p1 (Ai t2 (Ai m2 (Ai t1 (Ai sj (Ai nj (Ai e1 (Ai o1 (Ai z1 tI)))))))))))))))))))) k
set_option maxHeartbeats 2000000 in
theorem qyD {y hi lo H L r i v1 v2 r2 r3 i1 j v3 v4:Int} {s:Bool} {tm2:List (Nat×SV)} {hp2:List (Nat×Nat×SV)} (t0:decide (i≥0)=true) (n0:¬ i<0) (s1:Value.int .u64 (lo.fdiv (2 ^ (min i.toNat IntKind.u64.bits)))=.int .u64 v1) (a1:Value.int .u64 (bits .and .u64 v1 1)=.int .u64 v2) (t1:decide (i≥64)=true) (sj:iV (IntKind.i64.wrap (i-64))=iV j) (nj:¬ j<0) (s2:Value.int .u64 (hi.fdiv (2 ^ (min j.toNat IntKind.u64.bits)))=.int .u64 v3) (a2:Value.int .u64 (bits .and .u64 v3 1)=.int .u64 v4) (m1:Value.int .u64 (IntKind.u64.wrap (2*r))=.int .u64 r2) (p1:Value.int .u64 (IntKind.u64.wrap (r2+v4))=.int .u64 r3) (t2:decide (r3≥y)=false) (z1:iV (IntKind.i64.wrap (i-1))=iV i1)
 (k:RunsL Tryz.prog 0 0 qlb 54 3 (dvT y r3 i1) (dvH s hi lo H L) (.exit 0) tm2 hp2):RunsL Tryz.prog 0 0 qlb 54 3 (dvT y r i) (dvH s hi lo H L) (.exit 0) tm2 hp2:=
 RunsL.next [] 100 [.t true,Re s1,Re a1,.t true,Re sj,Re s2,Re a2,Re m1,Re p1,.t false,Re z1]
  (Ro (Ai t0 (Ai n0 (Ai s1 (Ai a1 (Ai t1 (Ai sj (Ai nj (Ai s2 (Ai a2 (Ai m1 (Ai p1 (Ai t2 (Ai z1 tI)))))))))))))) k
set_option maxHeartbeats 2000000 in
theorem qxf {y hi lo H L r i v1 v2 r2 r3 i1 r4 m H1:Int} {s:Bool} {tm2:List (Nat×SV)} {hp2:List (Nat×Nat×SV)} (t0:decide (i≥0)=true) (n0:¬ i<0) (s1:Value.int .u64 (lo.fdiv (2 ^ (min i.toNat IntKind.u64.bits)))=.int .u64 v1) (a1:Value.int .u64 (bits .and .u64 v1 1)=.int .u64 v2) (t1:decide (i≥64)=false) (m1:Value.int .u64 (IntKind.u64.wrap (2*r))=.int .u64 r2) (p1:Value.int .u64 (IntKind.u64.wrap (r2+v2))=.int .u64 r3) (t2:decide (r3≥y)=true) (m2:Value.int .u64 (IntKind.u64.wrap (r3-y))=.int .u64 r4) (e1:Value.int .u64 (IntKind.u64.wrap (1*2 ^ (min i.toNat IntKind.u64.bits)))=.int .u64 m) (o1:Value.int .u64 (bits .or .u64 L m)=.int .u64 H1) (z1:iV (IntKind.i64.wrap (i-1))=iV i1)
 (k:RunsL Tryz.prog 0 0 qlb 54 3 (dvT y r4 i1) (dvH s hi lo H H1) (.exit 0) tm2 hp2):RunsL Tryz.prog 0 0 qlb 54 3 (dvT y r i) (dvH s hi lo H L) (.exit 0) tm2 hp2:=
 RunsL.next [] 100 [.t true,Re s1,Re a1,.t false,Re m1,Re p1,.t true,Re m2,.t false,Re e1,Re o1,Re z1]
  (Ro (Ai t0 (Ai n0 (Ai s1 (Ai a1 (Ai t1 (Ai m1 (Ai p1 (Ai t2 (Ai m2 (Ai t1 (Ai n0 (Ai e1 (Ai o1 (Ai z1 tI))))))))))))))) k
set_option maxHeartbeats 2000000 in
theorem qyZ {y hi lo H L r i v1 v2 r2 r3 i1:Int} {s:Bool} {tm2:List (Nat×SV)} {hp2:List (Nat×Nat×SV)} (t0:decide (i≥0)=true) (n0:¬ i<0) (s1:Value.int .u64 (lo.fdiv (2 ^ (min i.toNat IntKind.u64.bits)))=.int .u64 v1) (a1:Value.int .u64 (bits .and .u64 v1 1)=.int .u64 v2) (t1:decide (i≥64)=false) (m1:Value.int .u64 (IntKind.u64.wrap (2*r))=.int .u64 r2) (p1:Value.int .u64 (IntKind.u64.wrap (r2+v2))=.int .u64 r3) (t2:decide (r3≥y)=false) (z1:iV (IntKind.i64.wrap (i-1))=iV i1)
 (k:RunsL Tryz.prog 0 0 qlb 54 3 (dvT y r3 i1) (dvH s hi lo H L) (.exit 0) tm2 hp2):RunsL Tryz.prog 0 0 qlb 54 3 (dvT y r i) (dvH s hi lo H L) (.exit 0) tm2 hp2:=
 RunsL.next [] 100 [.t true,Re s1,Re a1,.t false,Re m1,Re p1,.t false,Re z1]
  (Ro (Ai t0 (Ai n0 (Ai s1 (Ai a1 (Ai t1 (Ai m1 (Ai p1 (Ai t2 (Ai z1 tI)))))))))) k
set_option maxHeartbeats 2000000 in
theorem qrR {y hi lo H L r i:Int} {s:Bool} (t0:decide (i≥0)=false):RunsL Tryz.prog 0 0 qlb 54 3 (dvT y r i) (dvH s hi lo H L) (.exit 0) (dvT y r i) (dvH s hi lo H L):=
 RunsL.stop [] 100 [.t false] (fun h=>by cases h) (Ro (Ai t0 tI))
set_option maxHeartbeats 2000000 in
set_option maxHeartbeats 2000000 in
theorem qsl {y hi lo Q1 Q0 R:Int} {s:Bool} (k:RunsL Tryz.prog 0 0 qlb 54 3 (dvT y 0 127) (dvH s hi lo 0 0) (.exit 0) (dvT y R (-1)) (dvH s hi lo Q1 Q0)) :
 Pure Tryz.prog 92 #[qap s hi lo,.int .u64 y] (.tuple #[qap false Q1 Q0,.int .u64 R]):=
 qac (args:=[qap s hi lo,.int .u64 y]) 200 [Lf k]
  (Ai rfl (Lo k [] tI)) (by kernel_rfl)
theorem qkZ (v:Nat) (h:v<18446744073709551616):Value.int .u64 (bits .and .u64 (v:Int) 1)=.int .u64 ((v%2:Nat):Int):=by
 rw[show (1:Int)=((1:Nat):Int) from rfl,bits_and_u64_nat v 1 h (by omega),Nat.and_one_is_mod]
theorem qqR {v k m:Nat} (hk:k<64) (hv:v<18446744073709551616) (h:v=2 ^ (k+1)*m):Value.int .u64 (bits .or .u64 (v:Int) ((2 ^ k:Nat):Int))=.int .u64 ((v+2 ^ k:Nat):Int):=by
 have hp:2 ^ k<18446744073709551616:=Nat.lt_of_lt_of_le (Nat.pow_lt_pow_right (by omega) hk) (by decide)
 rw[bits_or_u64_nat v _ hv hp]
 subst h
 rw[← Nat.two_pow_add_eq_or_of_lt (Nat.pow_lt_pow_right (by omega) (Nat.lt_succ_self k))]
theorem qjr (v k:Nat):Int.fdiv (v:Int) (2 ^ k)=((v/2 ^ k:Nat):Int):=by
 rw[show ((2:Int) ^ k)=((2 ^ k:Nat):Int) by simp,Int.fdiv_eq_ediv_of_nonneg _ (Int.natCast_nonneg _)]
 simp
theorem qnt {k:Nat} (hk:k<64):Value.int .u64 (IntKind.u64.wrap (1*2 ^ k))=.int .u64 ((2 ^ k:Nat):Int):=by
 have hp:2 ^ k<18446744073709551616:=Nat.lt_of_lt_of_le (Nat.pow_lt_pow_right (by omega) hk) (by decide)
 rw[show ((1:Int)*2 ^ k)=((2 ^ k:Nat):Int) by simp]
 generalize 2 ^ k=m at hp
 rw[qdh (by omega) (by omega)]
theorem qdJ {x y:Int} (h:x=y) (h0:0≤y) (h1:y<18446744073709551616):Value.int .u64 (IntKind.u64.wrap x)=.int .u64 y:=by rw[h,qdh h0 h1]
theorem qrw (y hi lo A:Nat) (s:Bool) (hA:A=hi*18446744073709551616+lo) (hy0:0<y) (hy1:y≤9223372036854775808) (hhi:hi<18446744073709551616) (hlo:lo<18446744073709551616) {R Q1 Q0:Nat} (hR:R=A%y) (hQ1:Q1=A/y/18446744073709551616) (hQ0:Q0=A/y%18446744073709551616) :
 ∀ (j:Nat) (i:Int) (r H L N:Nat),j≤128→i=(j:Int)-1→r=(A/2 ^ j)%y→N=A/2 ^ j/y*2 ^ j→H=N/18446744073709551616→L=N%18446744073709551616→
  RunsL Tryz.prog 0 0 qlb 54 3 (dvT y r i) (dvH s hi lo H L) (.exit 0) (dvT y R (-1)) (dvH s hi lo Q1 Q0):=by
 intro j
 induction j with
 | zero=>
  intro i r H L N _ hi' hr hN hH hL
  simp only[Nat.pow_zero,Nat.div_one,Nat.mul_one] at hr hN
  have e1:i = -1:=by omega
  subst e1
  rw[hN] at hH hL
  rw[hr.trans hR.symm,hH.trans hQ1.symm,hL.trans hQ0.symm]
  exact qrR (by decide)
 | succ j ih=>
  intro i r H L N hj hi' hr hN hH hL
  have e1:i=(j:Int):=by omega
  subst e1
  have hpow:(2:Nat) ^ (j+1)=2*2 ^ j:=by rw[Nat.pow_succ,Nat.mul_comm]
  have hp0:0<(2:Nat) ^ j:=Nat.pow_pos (by omega)
  obtain⟨X,hX⟩:∃ X,X=A/2 ^ (j+1):=⟨_,rfl⟩
  obtain⟨b,hb⟩:∃ b,b=A/2 ^ j%2:=⟨_,rfl⟩
  have hXb:A/2 ^ j=2*X+b:=by
   rw[hX,hb,Nat.pow_succ,← Nat.div_div_eq_div_mul];omega
  rw[← hX] at hr hN
  obtain⟨q,hq⟩:∃ q,q=X/y:=⟨_,rfl⟩
  have hXq:X=y*q+r:=by rw[hq,hr,Nat.div_add_mod]
  rw[← hq] at hN
  have hr1:r<y:=by rw[hr];exact Nat.mod_lt _ hy0
  have hb1:b<2:=by omega
  have hNA:N≤A:=by
   rw[hN,hX] at *
   calc q*2 ^ (j+1)≤A/2 ^ (j+1)*2 ^ (j+1):=Nat.mul_le_mul_right _ (by rw[hq];exact Nat.div_le_self _ _)
    _≤A:=Nat.div_mul_le_self _ _
  have hA1:A<340282366920938463463374607431768211456:=by omega
  have hHb:H<18446744073709551616:=by omega
  have hLb:L<18446744073709551616:=by omega
  have t0:decide ((j:Int)≥0)=true:=by simp
  have n0:¬ (j:Int)<0:=by omega
  have m1:Value.int .u64 (IntKind.u64.wrap (2*(r:Int)))=.int .u64 ((2*r:Nat):Int):=qdJ (by omega) (by omega) (by omega)
  have p1:Value.int .u64 (IntKind.u64.wrap (((2*r:Nat):Int)+(b:Int)))=.int .u64 ((2*r+b:Nat):Int):=qdJ (by omega) (by omega) (by omega)
  have z1:iV (IntKind.i64.wrap ((j:Int)-1))=iV ((j:Int)-1):=by rw[qah (by omega) (by omega)]
  have hS1:min (j:Int).toNat IntKind.u64.bits=min j 64:=by simp[IntKind.bits]
  have s1:Value.int .u64 (Int.fdiv (lo:Int) (2 ^ (min (j:Int).toNat IntKind.u64.bits)))=.int .u64 ((lo/2 ^ (min j 64):Nat):Int):=by rw[hS1,qjr]
  have a1:=qkZ (lo/2 ^ (min j 64)) (Nat.lt_of_le_of_lt (Nat.div_le_self _ _) hlo)
  have key:∀ ge:Bool,decide (2*r+b≥y)=ge→(A/2 ^ j/y=2*q+(bif ge then 1 else 0)∧A/2 ^ j%y=2*r+b-(bif ge then y else 0)):=by
   intro ge hge
   have e:A/2 ^ j=(2*r+b)+y*(2*q):=by rw[hXb,hXq,Nat.mul_add,Nat.mul_left_comm];omega
   cases ge
   ·have hlt:2*r+b<y:=by simpa using hge
    rw[e,Nat.add_mul_div_left _ _ hy0,Nat.add_mul_mod_self_left,Nat.div_eq_of_lt hlt,Nat.mod_eq_of_lt hlt]
    exact⟨by simp,by simp⟩
   ·have hle:y≤2*r+b:=by simpa using hge
    have e2:A/2 ^ j=(2*r+b-y)+y*(2*q+1):=by rw[e,Nat.mul_add];omega
    have hlt:2*r+b-y<y:=by omega
    rw[e2,Nat.add_mul_div_left _ _ hy0,Nat.add_mul_mod_self_left,Nat.div_eq_of_lt hlt,Nat.mod_eq_of_lt hlt]
    exact⟨by simp,by simp⟩
  by_cases hh:64≤j
  ·obtain⟨k,rfl⟩:∃ k,j=64+k:=⟨j-64,by omega⟩
   have t1:decide (((64+k:Nat):Int)≥64)=true:=by simp;omega
   have sj:iV (IntKind.i64.wrap (((64+k:Nat):Int)-64))=iV (k:Int):=by
    rw[show ((64+k:Nat):Int)-64=(k:Int) by omega,qah (by omega) (by omega)]
   have hS2:min (k:Int).toNat IntKind.u64.bits=k:=by simp[IntKind.bits];omega
   have s2:Value.int .u64 (Int.fdiv (hi:Int) (2 ^ (min (k:Int).toNat IntKind.u64.bits)))=.int .u64 ((hi/2 ^ k:Nat):Int):=by rw[hS2,qjr]
   have a2:=qkZ (hi/2 ^ k) (Nat.lt_of_le_of_lt (Nat.div_le_self _ _) hhi)
   have hbit:hi/2 ^ k%2=b:=by
    rw[hb,hA,Nat.pow_add,← Nat.div_div_eq_div_mul]
    congr 2
    omega
   rw[hbit] at a2
   have hN2:N=(q*2 ^ (k+1))*18446744073709551616:=by
    rw[hN,show 64+k+1=64+(k+1) by omega,Nat.pow_add,Nat.mul_comm (2 ^ 64),← Nat.mul_assoc]
   have hH2:H=2 ^ (k+1)*q:=by rw[hH,hN2,Nat.mul_div_cancel _ (by omega),Nat.mul_comm]
   have hpk:(2:Nat) ^ (64+k)=2 ^ k*18446744073709551616:=by rw[Nat.pow_add,Nat.mul_comm]
   by_cases hge:y≤2*r+b
   ·obtain⟨k1,k2⟩:=key true (by simpa using hge)
    rw[cond_true] at k1 k2
    refine qxX (r4:=((2*r+b-y:Nat):Int)) (m:=((2 ^ k:Nat):Int)) (H1:=((H+2 ^ k:Nat):Int)) t0 n0 s1 a1 t1 sj (by omega) s2 a2 m1 p1 (by simp;omega) (qdJ (by omega) (by omega) (by omega)) (by rw[hS2];exact qnt (by omega)) (qqR (by omega) hHb hH2) z1 ?_
    have hN':A/2 ^ (64+k)/y*2 ^ (64+k)=N+2 ^ k*18446744073709551616:=by
     rw[k1,Nat.add_mul,Nat.one_mul,hpk,hN,hpow,hpk,Nat.mul_comm 2 q,Nat.mul_assoc]
    refine ih _ _ _ _ (N+2 ^ k*18446744073709551616) (by omega) rfl k2.symm hN'.symm ?_ ?_
    ·rw[hH,Nat.add_mul_div_right _ _ (by omega)]
    ·rw[hL,Nat.add_mul_mod_self_right]
   ·obtain⟨k1,k2⟩:=key false (by simpa using hge)
    rw[cond_false] at k1 k2
    refine qyD t0 n0 s1 a1 t1 sj (by omega) s2 a2 m1 p1 (by simp;omega) z1 ?_
    have hN':A/2 ^ (64+k)/y*2 ^ (64+k)=N:=by
     rw[k1,hN,hpow,Nat.add_zero,Nat.mul_comm 2 q,Nat.mul_assoc]
    exact ih _ _ _ _ N (by omega) rfl (by rw[k2];omega) hN'.symm hH hL
  ·have t1:decide ((j:Int)≥64)=false:=by simp;omega
   have hS2:min (j:Int).toNat IntKind.u64.bits=j:=by simp[IntKind.bits];omega
   rw[show min j 64=j by omega] at s1 a1
   obtain⟨k,hk⟩:∃ k,64=j+1+k:=⟨63-j,by omega⟩
   have h64:(18446744073709551616:Nat)=2 ^ (j+1)*2 ^ k:=by rw[← Nat.pow_add,← hk]
   have hbit:lo/2 ^ j%2=b:=by
    rw[hb,hA,h64,show hi*(2 ^ (j+1)*2 ^ k)+lo=lo+2 ^ j*(2*(hi*2 ^ k)) by rw[hpow];simp only[Nat.mul_assoc,Nat.mul_left_comm,Nat.mul_comm];omega,Nat.add_mul_div_left _ _ hp0]
    omega
   rw[hbit] at a1
   have hLm:L=2 ^ (j+1)*(q%2 ^ k):=by
    rw[hL,hN,h64,Nat.mul_comm q,Nat.mul_mod_mul_left]
   have hL1:L+2 ^ (j+1)≤18446744073709551616:=by
    rw[hLm,h64]
    have h1:q%2 ^ k<2 ^ k:=Nat.mod_lt _ (Nat.pow_pos (by omega))
    calc 2 ^ (j+1)*(q%2 ^ k)+2 ^ (j+1)=2 ^ (j+1)*(q%2 ^ k+1):=by rw[Nat.mul_add,Nat.mul_one]
     _≤2 ^ (j+1)*2 ^ k:=Nat.mul_le_mul_left _ h1
   by_cases hge:y≤2*r+b
   ·obtain⟨k1,k2⟩:=key true (by simpa using hge)
    rw[cond_true] at k1 k2
    refine qxf (r4:=((2*r+b-y:Nat):Int)) (m:=((2 ^ j:Nat):Int)) (H1:=((L+2 ^ j:Nat):Int)) t0 n0 s1 a1 t1 m1 p1 (by simp;omega) (qdJ (by omega) (by omega) (by omega)) (by rw[hS2];exact qnt (by omega)) (qqR (by omega) hLb hLm) z1 ?_
    have hN':A/2 ^ j/y*2 ^ j=N+2 ^ j:=by
     rw[k1,Nat.add_mul,Nat.one_mul,hN,hpow,Nat.mul_comm 2 q,Nat.mul_assoc]
    refine ih _ _ _ _ (N+2 ^ j) (by omega) rfl k2.symm hN'.symm ?_ ?_
    ·rw[hpow] at hL1
     omega
    ·rw[hpow] at hL1
     omega
   ·obtain⟨k1,k2⟩:=key false (by simpa using hge)
    rw[cond_false] at k1 k2
    refine qyZ t0 n0 s1 a1 t1 m1 p1 (by simp;omega) z1 ?_
    have hN':A/2 ^ j/y*2 ^ j=N:=by
     rw[k1,hN,hpow,Nat.add_zero,Nat.mul_comm 2 q,Nat.mul_assoc]
    exact ih _ _ _ _ N (by omega) rfl (by rw[k2];omega) hN'.symm hH hL
abbrev qcM (s:Bool) (A:Nat):Value:=qap s ((A/18446744073709551616:Nat):Int) ((A%18446744073709551616:Nat):Int)
theorem qeC (s:Bool) (A y:Nat) (hA:A<340282366920938463463374607431768211456) (hy0:0<y) (hy1:y≤9223372036854775808) :
 Pure Tryz.prog 92 #[qcM s A,.int .u64 (y:Int)] (.tuple #[qcM false (A/y),.int .u64 ((A%y:Nat):Int)]):=
 qsl (qrw y _ _ A s (by omega) hy0 hy1 (by omega) (by omega) rfl rfl rfl 128 127 0 0 0 0 (by omega) (by omega) (by rw[Nat.div_eq_of_lt (by omega),Nat.zero_mod]) (by rw[Nat.div_eq_of_lt (a:=A) (by omega),Nat.zero_div,Nat.zero_mul]) (by omega) (by omega))
end Go.Proofs.YtleaeldgaflmkaaGreat
