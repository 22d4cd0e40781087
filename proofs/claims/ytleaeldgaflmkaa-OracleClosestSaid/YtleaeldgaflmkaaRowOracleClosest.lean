/-
  OracleClosest holds. Conditions: none.
-/
import Derived.Test.YtleaeldgaflmkaaW29
import Derived.ProofKit
import Derived.OpenShut
import Derived.Lib.SmallJoins
namespace Go.Proofs.Ytleaeldgaflmkaa
set_option maxRecDepth 100000
open Go.ChangeShapes Go.WideShapes Go.ChangeAt Go.RowKit Go.Joins
theorem oracleClosest_knob:ownKnob Try.prog.godebug=none:=by kernel_rfl
theorem oracleClosest_cellsR:Try.prog.cellsOf 26=2:=by kernel_rfl
theorem oracleClosest_shutR {H:Type} {enc:TypeId×Value→H} (a b:Int) (wa:(Lit.int .i64 a).wf=true) (wb:(Lit.int .i64 b).wf=true) (W':World) (sp:Nat→Bool) :
 DataW.Trod enc Try.prog W' 0 sp true 26 (.agg #[.int .i64 a,.int .i64 b]) (.agg [.lit (.int .i64 a),.lit (.int .i64 b)]) []:=
 shut_agg2 (y0:=(.lit (.int .i64 a),[])) (y1:=(.lit (.int .i64 b),[])) Try.underlying26 (by kernel_rfl) oracleClosest_cellsR ⟨1,by simp[DataW.trod,Try.underlying2,wa]⟩ ⟨1,by simp[DataW.trod,Try.underlying2,wb]⟩
theorem oracleClosest_lifted (os:Os) (started:os.Started) (H:Type) (enc:TypeId×Value→H) :
 ReturnsInHanded {} Try.checked os 3 .any (Rows.oracleClosestSpec.pre6 enc Try.prog Try.f3 Rows.oracleClosestRow.domain false) (Rows.oracleClosestSpec.post enc Try.prog Try.f3 false true false false):=by
 refine returnsInHanded_of_change (C:=Try.checked) oracleClosest_knob started (by kernel_rfl) Try.func3
  (ChangeSpec.witness6 (enc:=enc) (C:=Try.checked) false ⟨#[],#[.agg #[.slice none 0 0],.agg #[.int .i64 0,.int .i64 0]],[]⟩ 8 (by kernel_rfl) (by kernel_rfl) (by kernel_rfl) (by kernel_rfl)) ?_
 intro W base args ds gs before hval0 hW hcnd _
 have hval:∀ (j:Nat) t v,Try.f3.params[j]?=some t→args[j]?=some v→Value.okWide Try.prog W .any base t v:=hval0
 have hW':=hW
 obtain⟨p,q,hA0,hV,rfl,hfz,hnd⟩:=hW
 have hA:DataW.TrodAll enc Try.prog W 0 (fun _=>true) true Try.f3.params.toList args.toList ds p:=hA0
 rw[Try.params3] at hA hval
 obtain⟨v0,vs0,d0,ds0,p0,q0,hargs,rfl,rfl,h0,rr0⟩:=trodAll_cons hA
 obtain⟨v1,vs1,d1,ds1,p1,q1,rfl,rfl,rfl,h1,rr1⟩:=trodAll_cons rr0
 obtain⟨rfl,rfl,rfl⟩:=trodAll_nil rr1
 obtain rfl:args=#[v0,v1]:=by cases args;simp_all
 obtain⟨rfl,rfl⟩:=trodVars_none hV
 have h0k:=h0
 obtain⟨u0,l0,rfl,r0,_⟩:=qi4 (hval 0 24 v0 rfl rfl) h0
 obtain⟨c1,k1,y1,x1,m1,rfl,rfl,rfl,hy1,hx1⟩:=open_agg2 Try.underlying26 (by kernel_rfl) oracleClosest_cellsR (hval 1 26 v1 rfl rfl) h1
 obtain⟨a1,e1,rfl,w1⟩:=DataW.trod_int Try.underlying2 hy1
 obtain⟨b1,g1,rfl,u1⟩:=DataW.trod_int Try.underlying2 hx1
 simp at e1 g1
 subst e1 g1
 clear hA0 hval0
 simp only[List.append_nil,List.nil_append] at hW'
 have hlt0:∀ x∈p0,x.block<W.heap.size:=fun x hx=>by simpa using hW'.lt x (by simpa using hx)
 refine (qeK r0 (bounds_i64 w1) (bounds_i64 u1)).mono fun e W' ⟨he,hgr⟩=>?_
 subst he
 exact⟨_,rfl,qfk (pv:=[]) hW' (fun _ _ _=>(trodAll_cons_mk (shut_bool Try.underlying4 _) trodAll_mk0)) (fun sp hsp=>(trodAll_cons_mk (WideElems.Trod_stays qjF qjl qlK h0k (fun x hx=>hgr.1.same (hlt0 x hx)) (fun x hx=>hsp x (by simpa using hx))) (trodAll_cons_mk (oracleClosest_shutR a1 b1 w1 u1 _ sp) trodAll_mk0))) (fun _ _=>rfl) (by simp)
  hgr (ok_one (by kernel_rfl) rfl (okWide_bool_mk Try.underlying4 _))⟩
theorem oracleClosest_holds:Rows.OracleClosestSaid:=
 OpenClaim.holds_of_wide 3 Try.f3 rfl rfl rfl rfl rfl rfl rfl ⟨rfl,rfl,rfl,rfl,rfl⟩ rfl rfl rfl rfl rfl (by kernel_rfl) Try.func3 (by kernel_rfl)
  (of_decide_eq_true (by kernel_rfl)) (by unfold Func.isWrapper;first | (rw[if_pos (by decide +kernel)];kernel_rfl) | (rw[if_neg (by decide +kernel)];exact⟨rfl,rfl⟩))
  (fun os started H enc _=>oracleClosest_lifted os started H enc)
#print axioms oracleClosest_holds
end Go.Proofs.Ytleaeldgaflmkaa
