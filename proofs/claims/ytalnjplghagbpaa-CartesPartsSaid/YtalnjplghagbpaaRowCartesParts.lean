/-
  CartesParts holds of every field, time and number Conditions: none.
-/
import Derived.Test.YtalnjplghagbpaaEt
import Derived.Test.YtalnjplghagbpaaW37
import Derived.ProofKit
import Derived.OpenShut
import Derived.Lib.SmallJoins
namespace Go.Proofs.Ytalnjplghagbpaa
set_option maxRecDepth 100000
open Go.ChangeShapes Go.WideShapes Go.ChangeAt Go.RowKit Go.Joins
theorem cartesParts_knob:ownKnob Try.prog.godebug=none:=by kernel_rfl
theorem cartesParts_cellsr:Try.prog.cellsOf 39=2:=by kernel_rfl
theorem cartesParts_shutr {H:Type} {enc:TypeId×Value→H} (a b:Int) (wa:(Lit.int .i64 a).wf=true) (wb:(Lit.int .i64 b).wf=true) (W':World) (sp:Nat→Bool) :
 DataW.Trod enc Try.prog W' 0 sp true 39 (.agg #[.int .i64 a,.int .i64 b]) (.agg [.lit (.int .i64 a),.lit (.int .i64 b)]) []:=
 shut_agg2 (y0:=(.lit (.int .i64 a),[])) (y1:=(.lit (.int .i64 b),[])) Try.underlying39 (by kernel_rfl) cartesParts_cellsr ⟨1,by simp[DataW.trod,Try.underlying2,wa]⟩ ⟨1,by simp[DataW.trod,Try.underlying2,wb]⟩
theorem cartesParts_lifted (os:Os) (started:os.Started) (H:Type) (enc:TypeId×Value→H) :
 ReturnsInHanded {} Try.checked os 7 .any (Rows.cartesPartsSpec.pre6 enc Try.prog Try.f7 Rows.cartesPartsRow.domain false) (Rows.cartesPartsSpec.post enc Try.prog Try.f7 false true false false):=by
 refine returnsInHanded_of_change (C:=Try.checked) cartesParts_knob started (by kernel_rfl) Try.func7
  (ChangeSpec.witness6 (enc:=enc) (C:=Try.checked) false ⟨#[],#[.agg #[.slice none 0 0],.agg #[.int .i64 0,.int .i64 0],.int .i64 0],[]⟩ 8 (by kernel_rfl) (by kernel_rfl) (by kernel_rfl) (by kernel_rfl)) ?_
 intro W base args ds gs before hval0 hW hcnd _
 have hval:∀ (j:Nat) t v,Try.f7.params[j]?=some t→args[j]?=some v→Value.okWide Try.prog W .any base t v:=hval0
 have hW':=hW
 obtain⟨p,q,hA0,hV,rfl,hfz,hnd⟩:=hW
 have hA:DataW.TrodAll enc Try.prog W 0 (fun _=>true) true Try.f7.params.toList args.toList ds p:=hA0
 rw[Try.params7] at hA hval
 obtain⟨v0,vs0,d0,ds0,p0,q0,hargs,rfl,rfl,h0,rr0⟩:=trodAll_cons hA
 obtain⟨v1,vs1,d1,ds1,p1,q1,rfl,rfl,rfl,h1,rr1⟩:=trodAll_cons rr0
 obtain⟨v2,vs2,d2,ds2,p2,q2,rfl,rfl,rfl,h2,rr2⟩:=trodAll_cons rr1
 obtain⟨rfl,rfl,rfl⟩:=trodAll_nil rr2
 obtain rfl:args=#[v0,v1,v2]:=by cases args;simp_all
 obtain⟨rfl,rfl⟩:=trodVars_none hV
 have h0k:=h0
 obtain⟨u0,l0,rfl,r0,_⟩:=qlE (hval 0 37 v0 rfl rfl) h0
 obtain⟨c1,k1,y1,x1,m1,rfl,rfl,rfl,hy1,hx1⟩:=open_agg2 Try.underlying39 (by kernel_rfl) cartesParts_cellsr (hval 1 39 v1 rfl rfl) h1
 obtain⟨a1,e1,rfl,w1⟩:=DataW.trod_int Try.underlying2 hy1
 obtain⟨b1,g1,rfl,u1⟩:=DataW.trod_int Try.underlying2 hx1
 simp at e1 g1
 subst e1 g1
 obtain⟨a2,rfl,rfl,rfl,w2⟩:=open_int Try.underlying3 (hval 2 3 v2 rfl rfl) h2
 clear hA0 hval0
 simp only[List.append_nil,List.nil_append] at hW'
 have hlt0:∀ x∈p0,x.block<W.heap.size:=fun x hx=>by simpa using hW'.lt x (by simp[hx])
 refine (qwm (qiu l0 a1 b1 (bounds_i64 w1) (bounds_i64 u1) a2) r0).mono fun e W' ⟨he,hgr⟩=>?_
 subst he
 exact⟨_,rfl,qf6 (pv:=[]) hW' (fun _ _ _=>(trodAll_cons_mk (shut_bool Try.underlying4 _) trodAll_mk0)) (fun sp hsp=>(trodAll_cons_mk (WideElems.Trod_stays qqw qnt qpe h0k (fun x hx=>hgr.1.same (hlt0 x hx)) (fun x hx=>hsp x (by simp[hx]))) (trodAll_cons_mk (cartesParts_shutr a1 b1 w1 u1 _ sp) (trodAll_cons_mk (shut_int Try.underlying3 w2) trodAll_mk0)))) (fun _ _=>rfl) (by simp)
  hgr (ok_one (by kernel_rfl) rfl (okWide_bool_mk Try.underlying4 _))⟩
theorem cartesParts_holds:Rows.CartesPartsSaid:=
 OpenClaim.holds_of_wide 7 Try.f7 rfl rfl rfl rfl rfl rfl rfl ⟨rfl,rfl,rfl,rfl,rfl⟩ rfl rfl rfl rfl rfl (by kernel_rfl) Try.func7 (by kernel_rfl)
  (of_decide_eq_true (by kernel_rfl)) (by unfold Func.isWrapper;first | (rw[if_pos (by decide +kernel)];kernel_rfl) | (rw[if_neg (by decide +kernel)];exact⟨rfl,rfl⟩))
  (fun os started H enc _=>cartesParts_lifted os started H enc)
#print axioms cartesParts_holds
end Go.Proofs.Ytalnjplghagbpaa
