/-
  KheapBuilds holds of every field, time and heap. Conditions: none.
-/
import Derived.Test.YtkckcgpmnipnaaaGreatW52
import Derived.ProofKit
import Derived.OpenShut
import Derived.Lib.SmallJoins
namespace Go.Proofs.YtkckcgpmnipnaaaGreat
set_option maxRecDepth 100000
open Go.ChangeShapes Go.WideShapes Go.ChangeAt Go.RowKit Go.Joins
theorem kheapBuilds_knob:ownKnob Tryz.prog.godebug=none:=by kernel_rfl
theorem kheapBuilds_cellsr:Tryz.prog.cellsOf 26=2:=by kernel_rfl
theorem kheapBuilds_shutr {H:Type} {enc:TypeId×Value→H} (a b:Int) (wa:(Lit.int .i64 a).wf=true) (wb:(Lit.int .i64 b).wf=true) (W':World) (sp:Nat→Bool) :
 DataW.Trod enc Tryz.prog W' 0 sp true 26 (.agg #[.int .i64 a,.int .i64 b]) (.agg [.lit (.int .i64 a),.lit (.int .i64 b)]) []:=
 shut_agg2 (y0:=(.lit (.int .i64 a),[])) (y1:=(.lit (.int .i64 b),[])) Tryz.underlying26 (by kernel_rfl) kheapBuilds_cellsr ⟨1,by simp[DataW.trod,Tryz.underlying2,wa]⟩ ⟨1,by simp[DataW.trod,Tryz.underlying2,wb]⟩
theorem kheapBuilds_lifted (os:Os) (started:os.Started) (H:Type) (enc:TypeId×Value→H) :
 ReturnsInHanded {} Tryz.checked os 3 .any (Rows.kheapBuildsSpec.pre6 enc Tryz.prog Tryz.f3 Rows.kheapBuildsRow.domain false) (Rows.kheapBuildsSpec.post enc Tryz.prog Tryz.f3 false true false false):=by
 refine returnsInHanded_of_change (C:=Tryz.checked) kheapBuilds_knob started (by kernel_rfl) Tryz.func3
  (ChangeSpec.witness6 (enc:=enc) (C:=Tryz.checked) false ⟨#[],#[.agg #[.slice none 0 0],.agg #[.int .i64 0,.int .i64 0],.agg #[.int .i64 0,.int .i64 0,.slice none 0 0,.int .i64 0,.slice none 0 0,.slice none 0 0,.slice none 0 0,.slice none 0 0,.slice none 0 0,.slice none 0 0,.slice none 0 0,.slice none 0 0]],[]⟩ 8 (by kernel_rfl) (by kernel_rfl) (by kernel_rfl) (by kernel_rfl)) ?_
 intro W base args ds gs before hval0 hW hcnd _
 have hval:∀ (j:Nat) t v,Tryz.f3.params[j]?=some t→args[j]?=some v→Value.okWide Tryz.prog W .any base t v:=hval0
 have hW':=hW
 obtain⟨p,q,hA0,hV,rfl,hfz,hnd⟩:=hW
 have hA:DataW.TrodAll enc Tryz.prog W 0 (fun _=>true) true Tryz.f3.params.toList args.toList ds p:=hA0
 rw[Tryz.params3] at hA hval
 obtain⟨v0,vs0,d0,ds0,p0,q0,hargs,rfl,rfl,h0,rr0⟩:=trodAll_cons hA
 obtain⟨v1,vs1,d1,ds1,p1,q1,rfl,rfl,rfl,h1,rr1⟩:=trodAll_cons rr0
 obtain⟨v2,vs2,d2,ds2,p2,q2,rfl,rfl,rfl,h2,rr2⟩:=trodAll_cons rr1
 obtain⟨rfl,rfl,rfl⟩:=trodAll_nil rr2
 obtain rfl:args=#[v0,v1,v2]:=by cases args;simp_all
 obtain⟨rfl,rfl⟩:=trodVars_none hV
 have h0k:=h0
 obtain⟨u0,l0,rfl,r0,_⟩:=qp9 (hval 0 24 v0 rfl rfl) h0
 obtain⟨c1,k1,y1,x1,m1,rfl,rfl,rfl,hy1,hx1⟩:=open_agg2 Tryz.underlying26 (by kernel_rfl) kheapBuilds_cellsr (hval 1 26 v1 rfl rfl) h1
 obtain⟨a1,e1,rfl,w1⟩:=DataW.trod_int Tryz.underlying2 hy1
 obtain⟨b1,g1,rfl,u1⟩:=DataW.trod_int Tryz.underlying2 hx1
 simp at e1 g1
 subst e1 g1
 have h2k:=h2
 obtain⟨c2,g2,ua2,ub2,uc2,ud2,ue2,uf2,ug2,uh2,ui2,rfl,r2,i2,j2,w2⟩:=qmb (hval 2 41 v2 rfl rfl) h2
 clear hA0 hval0
 simp only[List.append_nil,List.nil_append] at hW'
 have hlt0:∀ x∈p0,x.block<W.heap.size:=fun x hx=>by simpa using hW'.lt x (by simp[hx])
 have hlt2:∀ x∈p2,x.block<W.heap.size:=fun x hx=>by simpa using hW'.lt x (by simp[hx])
 refine (quS (qhl l0 a1 b1 (bounds_i64 w1) (bounds_i64 u1) c2 i2 j2 w2 g2) r0 r2).mono fun e W' ⟨he,hgr⟩=>?_
 subst he
 exact⟨_,rfl,qh2 (pv:=[]) hW' (fun _ _ _=>(trodAll_cons_mk (shut_bool Tryz.underlying4 _) trodAll_mk0)) (fun sp hsp=>(trodAll_cons_mk (WideElems.Trod_stays qnO qtt qve h0k (fun x hx=>hgr.1.same (hlt0 x hx)) (fun x hx=>hsp x (by simp[hx]))) (trodAll_cons_mk (kheapBuilds_shutr a1 b1 w1 u1 _ sp) (trodAll_cons_mk (WideElems.Trod_stays qnO qvN qz6 h2k (fun x hx=>hgr.1.same (hlt2 x hx)) (fun x hx=>hsp x (by simp[hx]))) trodAll_mk0)))) (fun _ _=>rfl) (by simp)
  hgr (ok_one (by kernel_rfl) rfl (okWide_bool_mk Tryz.underlying4 _))⟩
theorem kheapBuilds_ka:(Rows.kheapBuildsRow.inPlace==Tryz.pinned.checked.prog.inPlace 3)=true:=by kernel_rfl
theorem kheapBuilds_kb:(Rows.kheapBuildsRow.unfollowed==Tryz.pinned.checked.prog.unfollowed 3)=true:=by kernel_rfl
theorem kheapBuilds_kc:(Rows.kheapBuildsRow.recurses==Tryz.pinned.checked.prog.recurses 3)=true:=by kernel_rfl
theorem kheapBuilds_kd:(Rows.kheapBuildsRow.named==Tryz.pinned.checked.prog.varsNamed 3)=true:=by kernel_rfl
theorem kheapBuilds_kg:Tryz.pinned.checked.prog.stopsHeard=true:=by kernel_rfl
theorem kheapBuilds_kh:Tryz.pinned.checked.prog.mayEnter=true:=by kernel_rfl
theorem kheapBuilds_ki:(Rows.kheapBuildsRow.lifted==Tryz.pinned.checked.prog.liftsFinal)=true:=by kernel_rfl
theorem kheapBuilds_closed:joinedFacts Tryz.pinned.checked.prog 3 Tryz.f3 Rows.kheapBuildsSpec Rows.kheapBuildsRow=true:=by
 unfold joinedFacts
 rw[kheapBuilds_ka,kheapBuilds_kb,kheapBuilds_kc,kheapBuilds_kd,kheapBuilds_kg,kheapBuilds_kh,kheapBuilds_ki]
 kernel_rfl
theorem kheapBuilds_holds:Rows.KheapBuildsSaid:=
 OpenClaim.holds_of_wide 3 Tryz.f3 rfl rfl rfl rfl rfl rfl rfl ⟨rfl,rfl,rfl,rfl,rfl⟩ rfl rfl rfl rfl rfl (by kernel_rfl) Tryz.func3 kheapBuilds_closed
  (of_decide_eq_true (by kernel_rfl)) (by unfold Func.isWrapper;first | (rw[if_pos (by decide +kernel)];kernel_rfl) | (rw[if_neg (by decide +kernel)];exact⟨rfl,rfl⟩))
  (fun os started H enc _=>kheapBuilds_lifted os started H enc)
#print axioms kheapBuilds_holds
end Go.Proofs.YtkckcgpmnipnaaaGreat
