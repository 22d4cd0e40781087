/-
  KheapRenews holds of every clock, field and list of certificates. Conditions: none.
-/
import Derived.Test.YtkckcgpmnipnaaaGreatEz
import Derived.ProofKit
import Derived.OpenShut
import Derived.Lib.SmallJoins
namespace Go.Proofs.YtkckcgpmnipnaaaGreat
set_option maxRecDepth 100000
open Go.ChangeShapes Go.WideShapes Go.ChangeAt Go.RowKit Go.Joins
theorem kheapRenews_knob:ownKnob Tryz.prog.godebug=none:=by kernel_rfl
theorem kheapRenews_lifted (os:Os) (started:os.Started) (H:Type) (enc:TypeId×Value→H) :
 ReturnsInHanded {} Tryz.checked os 5 .any (Rows.kheapRenewsSpec.pre6 enc Tryz.prog Tryz.f5 Rows.kheapRenewsRow.domain false) (Rows.kheapRenewsSpec.post enc Tryz.prog Tryz.f5 false true false false):=by
 refine returnsInHanded_of_change (C:=Tryz.checked) kheapRenews_knob started (by kernel_rfl) Tryz.func5
  (ChangeSpec.witness6 (enc:=enc) (C:=Tryz.checked) false ⟨#[],#[.agg #[.int .i64 0,.int .i64 0,.slice none 0 0,.int .i64 0,.slice none 0 0,.slice none 0 0,.slice none 0 0,.slice none 0 0,.slice none 0 0,.slice none 0 0,.slice none 0 0],.agg #[.slice none 0 0],.slice none 0 0],[]⟩ 8 (by kernel_rfl) (by kernel_rfl) (by kernel_rfl) (by kernel_rfl)) ?_
 intro W base args ds gs before hval0 hW hcnd _;have hval:∀ (j:Nat) t v,Tryz.f5.params[j]?=some t→args[j]?=some v→Value.okWide Tryz.prog W .any base t v:=hval0;have hW':=hW;obtain⟨p,q,hA0,hV,rfl,hfz,hnd⟩:=hW;have hA:DataW.TrodAll enc Tryz.prog W 0 (fun _=>true) true Tryz.f5.params.toList args.toList ds p:=hA0;rw[Tryz.params5] at hA hval;obtain⟨v0,vs0,d0,ds0,p0,q0,hargs,rfl,rfl,h0,rr0⟩:=trodAll_cons hA;obtain⟨v1,vs1,d1,ds1,p1,q1,rfl,rfl,rfl,h1,rr1⟩:=trodAll_cons rr0;obtain⟨v2,vs2,d2,ds2,p2,q2,rfl,rfl,rfl,h2,rr2⟩:=trodAll_cons rr1;obtain⟨rfl,rfl,rfl⟩:=trodAll_nil rr2
 obtain rfl:args=#[v0,v1,v2]:=by cases args;simp_all
 obtain⟨rfl,rfl⟩:=trodVars_none hV;have h0k:=h0;obtain⟨c0,ua0,ub0,uc0,ud0,ue0,uf0,ug0,uh0,rfl,r0,i0,j0,w0⟩:=qlJ (hval 0 39 v0 rfl rfl) h0;have h1k:=h1;obtain⟨u1,l1,rfl,r1,_⟩:=qqr (hval 1 24 v1 rfl rfl) h1;have h2k:=h2;obtain⟨l2,r2⟩:=qr3 (hval 2 49 v2 rfl rfl) h2;clear hA0 hval0;simp only[List.append_nil,List.nil_append] at hW'
 have hlt0:∀ x∈p0,x.block<W.heap.size:=fun x hx=>by simpa using hW'.lt x (by simp[hx])
 have hlt1:∀ x∈p1,x.block<W.heap.size:=fun x hx=>by simpa using hW'.lt x (by simp[hx])
 have hlt2:∀ x∈p2,x.block<W.heap.size:=fun x hx=>by simpa using hW'.lt x (by simp[hx])
 refine (qyo (qhF c0 i0 j0 w0 l1 l2) r0 r1 r2).mono fun e W' ⟨he,hgr⟩=>?_
 subst he
 exact⟨_,rfl,qh5 (pv:=[]) hW' (fun _ _ _=>(trodAll_cons_mk (shut_bool Tryz.underlying4 _) trodAll_mk0)) (fun sp hsp=>(trodAll_cons_mk (WideElems.Trod_stays qjZ qxj qDB h0k (fun x hx=>hgr.1.same (hlt0 x hx)) (fun x hx=>hsp x (by simp[hx]))) (trodAll_cons_mk (WideElems.Trod_stays qjZ qrF qyg h1k (fun x hx=>hgr.1.same (hlt1 x hx)) (fun x hx=>hsp x (by simp[hx]))) (trodAll_cons_mk (WideElems.Trod_stays qjZ qqs qxV h2k (fun x hx=>hgr.1.same (hlt2 x hx)) (fun x hx=>hsp x (by simp[hx]))) trodAll_mk0)))) (fun _ _=>rfl) (by simp)
  hgr (ok_one (by kernel_rfl) rfl (okWide_bool_mk Tryz.underlying4 _))⟩
theorem kheapRenews_ka:(Rows.kheapRenewsRow.inPlace==Tryz.pinned.checked.prog.inPlace 5)=true:=by kernel_rfl
theorem kheapRenews_kb:(Rows.kheapRenewsRow.unfollowed==Tryz.pinned.checked.prog.unfollowed 5)=true:=by kernel_rfl
theorem kheapRenews_kc:(Rows.kheapRenewsRow.recurses==Tryz.pinned.checked.prog.recurses 5)=true:=by kernel_rfl
theorem kheapRenews_kd:(Rows.kheapRenewsRow.named==Tryz.pinned.checked.prog.varsNamed 5)=true:=by kernel_rfl
theorem kheapRenews_kg:Tryz.pinned.checked.prog.stopsHeard=true:=by kernel_rfl
theorem kheapRenews_kh:Tryz.pinned.checked.prog.mayEnter=true:=by kernel_rfl
theorem kheapRenews_ki:(Rows.kheapRenewsRow.lifted==Tryz.pinned.checked.prog.liftsFinal)=true:=by kernel_rfl
theorem kheapRenews_closed:joinedFacts Tryz.pinned.checked.prog 5 Tryz.f5 Rows.kheapRenewsSpec Rows.kheapRenewsRow=true:=by
 unfold joinedFacts;rw[kheapRenews_ka,kheapRenews_kb,kheapRenews_kc,kheapRenews_kd,kheapRenews_kg,kheapRenews_kh,kheapRenews_ki]
 kernel_rfl
theorem kheapRenews_holds:Rows.KheapRenewsSaid:=
 OpenClaim.holds_of_wide 5 Tryz.f5 rfl rfl rfl rfl rfl rfl rfl ⟨rfl,rfl,rfl,rfl,rfl⟩ rfl rfl rfl rfl rfl (by kernel_rfl) Tryz.func5 kheapRenews_closed
  (of_decide_eq_true (by kernel_rfl)) (by unfold Func.isWrapper;first | (rw[if_pos (by decide +kernel)];kernel_rfl) | (rw[if_neg (by decide +kernel)];exact⟨rfl,rfl⟩))
  (fun os started H enc _=>kheapRenews_lifted os started H enc)
#print axioms kheapRenews_holds
end Go.Proofs.YtkckcgpmnipnaaaGreat
