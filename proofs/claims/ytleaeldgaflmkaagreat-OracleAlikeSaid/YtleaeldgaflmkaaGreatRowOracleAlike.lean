/-
  OracleAlike holds of every list of points, time, index and list of asks. Conditions: none.
-/
import Derived.Test.YtleaeldgaflmkaaGreatW48
import Derived.ProofKit
import Derived.OpenShut
import Derived.Lib.SmallJoins
namespace Go.Proofs.YtleaeldgaflmkaaGreat
set_option maxRecDepth 100000
open Go.ChangeShapes Go.WideShapes Go.ChangeAt Go.RowKit Go.Joins
theorem oracleAlike_knob:ownKnob Tryz.prog.godebug=none:=by kernel_rfl
theorem oracleAlike_cellsr:Tryz.prog.cellsOf 23=2:=by kernel_rfl
theorem oracleAlike_shutr {H:Type} {enc:TypeId×Value→H} (a b:Int) (wa:(Lit.int .i64 a).wf=true) (wb:(Lit.int .i64 b).wf=true) (W':World) (sp:Nat→Bool) :
 DataW.Trod enc Tryz.prog W' 0 sp true 23 (.agg #[.int .i64 a,.int .i64 b]) (.agg [.lit (.int .i64 a),.lit (.int .i64 b)]) []:=
 shut_agg2 (y0:=(.lit (.int .i64 a),[])) (y1:=(.lit (.int .i64 b),[])) Tryz.underlying23 (by kernel_rfl) oracleAlike_cellsr ⟨1,by simp[DataW.trod,Tryz.underlying2,wa]⟩ ⟨1,by simp[DataW.trod,Tryz.underlying2,wb]⟩
theorem oracleAlike_lifted (os:Os) (started:os.Started) (H:Type) (enc:TypeId×Value→H) :
 ReturnsInHanded {} Tryz.checked os 6 .any (Rows.oracleAlikeSpec.pre6 enc Tryz.prog Tryz.f6 Rows.oracleAlikeRow.domain false) (Rows.oracleAlikeSpec.post enc Tryz.prog Tryz.f6 false true false false):=by
 refine returnsInHanded_of_change (C:=Tryz.checked) oracleAlike_knob started (by kernel_rfl) Tryz.func6
  (ChangeSpec.witness6 (enc:=enc) (C:=Tryz.checked) false ⟨#[],#[.slice none 0 0,.agg #[.int .i64 0,.int .i64 0],.int .i64 0,.slice none 0 0],[]⟩ 8 (by kernel_rfl) (by kernel_rfl) (by kernel_rfl) (by kernel_rfl)) ?_
 intro W base args ds gs before hval0 hW hcnd _
 have hval:∀ (j:Nat) t v,Tryz.f6.params[j]?=some t→args[j]?=some v→Value.okWide Tryz.prog W .any base t v:=hval0
 have hW':=hW
 obtain⟨p,q,hA0,hV,rfl,hfz,hnd⟩:=hW
 have hA:DataW.TrodAll enc Tryz.prog W 0 (fun _=>true) true Tryz.f6.params.toList args.toList ds p:=hA0
 rw[Tryz.params6] at hA hval
 obtain⟨v0,vs0,d0,ds0,p0,q0,hargs,rfl,rfl,h0,rr0⟩:=trodAll_cons hA
 obtain⟨v1,vs1,d1,ds1,p1,q1,rfl,rfl,rfl,h1,rr1⟩:=trodAll_cons rr0
 obtain⟨v2,vs2,d2,ds2,p2,q2,rfl,rfl,rfl,h2,rr2⟩:=trodAll_cons rr1
 obtain⟨v3,vs3,d3,ds3,p3,q3,rfl,rfl,rfl,h3,rr3⟩:=trodAll_cons rr2
 obtain⟨rfl,rfl,rfl⟩:=trodAll_nil rr3
 obtain rfl:args=#[v0,v1,v2,v3]:=by cases args;simp_all
 obtain⟨rfl,rfl⟩:=trodVars_none hV
 have h0k:=h0
 obtain⟨l0,r0⟩:=qs3 (hval 0 24 v0 rfl rfl) h0
 obtain⟨c1,k1,y1,x1,m1,rfl,rfl,rfl,hy1,hx1⟩:=open_agg2 Tryz.underlying23 (by kernel_rfl) oracleAlike_cellsr (hval 1 23 v1 rfl rfl) h1
 obtain⟨a1,e1,rfl,w1⟩:=DataW.trod_int Tryz.underlying2 hy1
 obtain⟨b1,g1,rfl,u1⟩:=DataW.trod_int Tryz.underlying2 hx1
 simp at e1 g1
 subst e1 g1
 obtain⟨a2,rfl,rfl,rfl,w2⟩:=open_int Tryz.underlying3 (hval 2 3 v2 rfl rfl) h2
 have h3k:=h3
 obtain⟨l3,r3,i3⟩:=qnX (hval 3 46 v3 rfl rfl) h3
 clear hA0 hval0
 simp only[List.append_nil,List.nil_append] at hW'
 have hlt0:∀ x∈p0,x.block<W.heap.size:=fun x hx=>by simpa using hW'.lt x (by simp[hx])
 have hlt3:∀ x∈p3,x.block<W.heap.size:=fun x hx=>by simpa using hW'.lt x (by simp[hx])
 refine (qAl (qhb l0 a1 b1 (bounds_i64 w1) (bounds_i64 u1) a2 l3 i3) r0 r3).mono fun e W' ⟨he,hgr⟩=>?_
 subst he
 exact⟨_,rfl,qhJ (pv:=[]) hW' (fun _ _ _=>(trodAll_cons_mk (shut_bool Tryz.underlying4 _) trodAll_mk0)) (fun sp hsp=>(trodAll_cons_mk (WideElems.Trod_stays qnS qo3 qsN h0k (fun x hx=>hgr.1.same (hlt0 x hx)) (fun x hx=>hsp x (by simp[hx]))) (trodAll_cons_mk (oracleAlike_shutr a1 b1 w1 u1 _ sp) (trodAll_cons_mk (shut_int Tryz.underlying3 w2) (trodAll_cons_mk (WideElems.Trod_stays qnS qtY qwF h3k (fun x hx=>hgr.1.same (hlt3 x hx)) (fun x hx=>hsp x (by simp[hx]))) trodAll_mk0))))) (fun _ _=>rfl) (by simp)
  hgr (ok_one (by kernel_rfl) rfl (okWide_bool_mk Tryz.underlying4 _))⟩
theorem oracleAlike_holds:Rows.OracleAlikeSaid:=
 OpenClaim.holds_of_wide 6 Tryz.f6 rfl rfl rfl rfl rfl rfl rfl ⟨rfl,rfl,rfl,rfl,rfl⟩ rfl rfl rfl rfl rfl (by kernel_rfl) Tryz.func6 (by kernel_rfl)
  (of_decide_eq_true (by kernel_rfl)) (by unfold Func.isWrapper;first | (rw[if_pos (by decide +kernel)];kernel_rfl) | (rw[if_neg (by decide +kernel)];exact⟨rfl,rfl⟩))
  (fun os started H enc _=>oracleAlike_lifted os started H enc)
#print axioms oracleAlike_holds
end Go.Proofs.YtleaeldgaflmkaaGreat
