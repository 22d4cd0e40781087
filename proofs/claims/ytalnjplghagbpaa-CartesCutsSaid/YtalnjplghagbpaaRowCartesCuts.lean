/-
  CartesCuts holds of every two trees, number, field and time Conditions: none.
-/
import Derived.Test.YtalnjplghagbpaaW35
import Derived.Test.YtalnjplghagbpaaW34
import Derived.ProofKit
import Derived.OpenShut
import Derived.Lib.SmallJoins
namespace Go.Proofs.Ytalnjplghagbpaa
set_option maxRecDepth 100000
open Go.ChangeShapes Go.WideShapes Go.ChangeAt Go.RowKit Go.Joins
theorem cartesCuts_knob:ownKnob Try.prog.godebug=none:=by kernel_rfl
theorem cartesCuts_cellsr:Try.prog.cellsOf 39=2:=by kernel_rfl
theorem cartesCuts_shutr {H:Type} {enc:TypeId×Value→H} (a b:Int) (wa:(Lit.int .i64 a).wf=true) (wb:(Lit.int .i64 b).wf=true) (W':World) (sp:Nat→Bool) :
 DataW.Trod enc Try.prog W' 0 sp true 39 (.agg #[.int .i64 a,.int .i64 b]) (.agg [.lit (.int .i64 a),.lit (.int .i64 b)]) []:=
 shut_agg2 (y0:=(.lit (.int .i64 a),[])) (y1:=(.lit (.int .i64 b),[])) Try.underlying39 (by kernel_rfl) cartesCuts_cellsr ⟨1,by simp[DataW.trod,Try.underlying2,wa]⟩ ⟨1,by simp[DataW.trod,Try.underlying2,wb]⟩
theorem cartesCuts_lifted (os:Os) (started:os.Started) (H:Type) (enc:TypeId×Value→H) :
 ReturnsInHanded {} Try.checked os 5 .any (Rows.cartesCutsSpec.pre6 enc Try.prog Try.f5 Rows.cartesCutsRow.domain false) (Rows.cartesCutsSpec.post enc Try.prog Try.f5 false true false false):=by
 refine returnsInHanded_of_change (C:=Try.checked) cartesCuts_knob started (by kernel_rfl) Try.func5
  (ChangeSpec.witness6 (enc:=enc) (C:=Try.checked) false ⟨#[],#[.agg #[.int .i64 0,.slice none 0 0],.agg #[.int .i64 0,.slice none 0 0],.int .i64 0,.agg #[.slice none 0 0],.agg #[.int .i64 0,.int .i64 0]],[]⟩ 8 (by kernel_rfl) (by kernel_rfl) (by kernel_rfl) (by kernel_rfl)) ?_
 intro W base args ds gs before hval0 hW hcnd _
 have hval:∀ (j:Nat) t v,Try.f5.params[j]?=some t→args[j]?=some v→Value.okWide Try.prog W .any base t v:=hval0
 have hW':=hW
 obtain⟨p,q,hA0,hV,rfl,hfz,hnd⟩:=hW
 have hA:DataW.TrodAll enc Try.prog W 0 (fun _=>true) true Try.f5.params.toList args.toList ds p:=hA0
 rw[Try.params5] at hA hval
 obtain⟨v0,vs0,d0,ds0,p0,q0,hargs,rfl,rfl,h0,rr0⟩:=trodAll_cons hA
 obtain⟨v1,vs1,d1,ds1,p1,q1,rfl,rfl,rfl,h1,rr1⟩:=trodAll_cons rr0
 obtain⟨v2,vs2,d2,ds2,p2,q2,rfl,rfl,rfl,h2,rr2⟩:=trodAll_cons rr1
 obtain⟨v3,vs3,d3,ds3,p3,q3,rfl,rfl,rfl,h3,rr3⟩:=trodAll_cons rr2
 obtain⟨v4,vs4,d4,ds4,p4,q4,rfl,rfl,rfl,h4,rr4⟩:=trodAll_cons rr3
 obtain⟨rfl,rfl,rfl⟩:=trodAll_nil rr4
 obtain rfl:args=#[v0,v1,v2,v3,v4]:=by cases args;simp_all
 obtain⟨rfl,rfl⟩:=trodVars_none hV
 have h0k:=h0
 obtain⟨x0,u0,l0,rfl,r0⟩:=qeK (hval 0 24 v0 rfl rfl) h0
 have h1k:=h1
 obtain⟨x1,u1,l1,rfl,r1⟩:=qeK (hval 1 24 v1 rfl rfl) h1
 obtain⟨a2,rfl,rfl,rfl,w2⟩:=open_int Try.underlying3 (hval 2 3 v2 rfl rfl) h2
 have h3k:=h3
 obtain⟨u3,l3,rfl,r3,_⟩:=qlK (hval 3 37 v3 rfl rfl) h3
 obtain⟨c4,k4,y4,x4,m4,rfl,rfl,rfl,hy4,hx4⟩:=open_agg2 Try.underlying39 (by kernel_rfl) cartesCuts_cellsr (hval 4 39 v4 rfl rfl) h4
 obtain⟨a4,e4,rfl,w4⟩:=DataW.trod_int Try.underlying2 hy4
 obtain⟨b4,g4,rfl,u4⟩:=DataW.trod_int Try.underlying2 hx4
 simp at e4 g4
 subst e4 g4
 clear hA0 hval0
 simp only[List.append_nil,List.nil_append] at hW'
 have hlt0:∀ x∈p0,x.block<W.heap.size:=fun x hx=>by simpa using hW'.lt x (by simp[hx])
 have hlt1:∀ x∈p1,x.block<W.heap.size:=fun x hx=>by simpa using hW'.lt x (by simp[hx])
 have hlt3:∀ x∈p3,x.block<W.heap.size:=fun x hx=>by simpa using hW'.lt x (by simp[hx])
 refine (qrv (qjA x0 l0 x1 l1 a2 l3 a4 b4 (bounds_i64 w4) (bounds_i64 u4)) r0 r1 r3).mono fun e W' ⟨he,hgr⟩=>?_
 subst he
 exact⟨_,rfl,qfj (pv:=[]) hW' (fun _ _ _=>(trodAll_cons_mk (shut_bool Try.underlying4 _) trodAll_mk0)) (fun sp hsp=>(trodAll_cons_mk (WideElems.Trod_stays qgf qiX qnb h0k (fun x hx=>hgr.1.same (hlt0 x hx)) (fun x hx=>hsp x (by simp[hx]))) (trodAll_cons_mk (WideElems.Trod_stays qgf qiX qnb h1k (fun x hx=>hgr.1.same (hlt1 x hx)) (fun x hx=>hsp x (by simp[hx]))) (trodAll_cons_mk (shut_int Try.underlying3 w2) (trodAll_cons_mk (WideElems.Trod_stays qgf qmn qoA h3k (fun x hx=>hgr.1.same (hlt3 x hx)) (fun x hx=>hsp x (by simp[hx]))) (trodAll_cons_mk (cartesCuts_shutr a4 b4 w4 u4 _ sp) trodAll_mk0)))))) (fun _ _=>rfl) (by simp)
  hgr (ok_one (by kernel_rfl) rfl (okWide_bool_mk Try.underlying4 _))⟩
theorem cartesCuts_holds:Rows.CartesCutsSaid:=
 OpenClaim.holds_of_wide 5 Try.f5 rfl rfl rfl rfl rfl rfl rfl ⟨rfl,rfl,rfl,rfl,rfl⟩ rfl rfl rfl rfl rfl (by kernel_rfl) Try.func5 (by kernel_rfl)
  (of_decide_eq_true (by kernel_rfl)) (by unfold Func.isWrapper;first | (rw[if_pos (by decide +kernel)];kernel_rfl) | (rw[if_neg (by decide +kernel)];exact⟨rfl,rfl⟩))
  (fun os started H enc _=>cartesCuts_lifted os started H enc)
#print axioms cartesCuts_holds
end Go.Proofs.Ytalnjplghagbpaa
